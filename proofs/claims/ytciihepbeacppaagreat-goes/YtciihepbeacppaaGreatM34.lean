import Derived.Test.YtciihepbeacppaaGreatM33
set_option maxRecDepth 100000
set_option maxHeartbeats 0
namespace Go.Proofs.YtciihepbeacppaaGreat
open Tryz Go.RowKit List World Below
set_option linter.unusedVariables false
def Ve(nd:Nd):Prop:=nd.op=6\/nd.op=7\/nd.op=10\/nd.op=0
structure gV(t:PS):Prop where
 ak:∀nd∈t.nodes,nd.ak<=1/\(nd.op=2->nd.ak=1)
 nv:t.failed=false->t.vars.length=0->∀nd∈t.nodes,Ve nd
section
variable {ws:List ByteArray} {s t:PS}
theorem gV.of(h:gV s)(hn:t.nodes=s.nodes)(hf:t.failed=false->s.failed=false)(hv:s.vars.length<=t.vars.length):gV t :=
 ⟨by rw[hn];exact h.ak,λh1 h2=>by rw[hn];exact h.nv (hf h1) (by omega)⟩
theorem gV.add(h:gV t){nd:Nd}(h1:nd.ak<=1/\(nd.op=2->nd.ak=1))(h2:t.failed=false->t.vars.length=0->Ve nd):gV (dZ nd t):=by
 refine⟨λx hx=>?_,λg1 g2 x hx=>?_⟩
 .rcases mem_append.1 (show x∈t.nodes++[{ nd with nx:=t.nodes.length+1 }] from hx) with hx|hx
  .exact h.ak x hx
  .rw[mem_singleton.1 hx];exact h1
 .rcases mem_append.1 (show x∈t.nodes++[{ nd with nx:=t.nodes.length+1 }] from hx) with hx|hx
  .exact h.nv g1 g2 x hx
  .rw[mem_singleton.1 hx];exact h2 g1 g2
theorem iF{α:Type}{f:α->α}{x:α}:∀{l:List α} {k:Nat},x∈l.modify k f->x∈l\/∃y∈l,x=f y
 |[],_,h=>by simp at h
 |a::l,0,h=>by
  rw[modify_zero_cons]at h;rcases mem_cons.1 h with rfl|h
  .exact zq1 ⟨a,by simp,rfl⟩
  .exact zq0 (by simp[h])
 |a::l,k+1,h=>by
  rw[modify_succ_cons]at h;rcases mem_cons.1 h with rfl|h
  .exact zq0 (by simp)
  .rcases iF h with h|⟨y,hy,rfl⟩
   .exact zq0 (by simp[h])
   .exact zq1 ⟨y,by simp[hy],rfl⟩
theorem gV.ot(h:gV t)(k n:Nat):gV { t with nodes:=eB k n t.nodes }:=by
 refine⟨λx hx=>?_,λg1 g2 x hx=>?_⟩
 .rcases iF (show x∈t.nodes.modify k _ from hx) with hx|⟨y,hy,rfl⟩
  .exact h.ak x hx
  .exact h.ak y hy
 .rcases iF (show x∈t.nodes.modify k _ from hx) with hx|⟨y,hy,rfl⟩
  .exact h.nv g1 g2 x hx
  .exact h.nv g1 g2 y hy
theorem gV.nx(h:gV t)(k n:Nat):gV { t with nodes:=gK k n t.nodes }:=by
 refine⟨λx hx=>?_,λg1 g2 x hx=>?_⟩
 .rcases iF (show x∈t.nodes.modify k _ from hx) with hx|⟨y,hy,rfl⟩
  .exact h.ak x hx
  .exact h.ak y hy
 .rcases iF (show x∈t.nodes.modify k _ from hx) with hx|⟨y,hy,rfl⟩
  .exact h.nv g1 g2 x hx
  .exact h.nv g1 g2 y hy
theorem r8:fE ws s<=1:=by unfold fE;split <;> decide
theorem rZ(h:(cG ws s).failed=false):0<(cG ws s).vars.length:=by
 have hl:=(lF h).1;unfold cG;rw[if_pos hl];have:=(lX s.vars (VH (pk ws s))).2;show 0<(put s.vars (VH (pk ws s))).length;omega
theorem afn:((nj ws s).ak<=1/\((nj ws s).op=2->(nj ws s).ak=1))/\((mx ws s).failed=false->(mx ws s).vars.length=0->Ve (nj ws s)):=by
 unfold nj mx;split
 .exact⟨⟨zq5 _,λe=>by cases e⟩,λ_ _=>zq0 rfl⟩
 .split
  .refine⟨⟨zq5 _,λe=>by cases e⟩,λh1 h2=>?_⟩;have:=rZ h1;omega
  .split
   .refine⟨⟨r8,λe=>by cases e⟩,λh1 h2=>?_⟩;have g1:=(mb h1).1;have g2:(cG ws s).failed=false:=(cO _ (cO _ g1).2.1).2.1;have:=rZ g2;have h9:Mo (cG ws s) (dS ws (EY ws (cG ws s))):=EZ.trans fq;have:=h9.2.1;omega
   .refine⟨?_,λh1 h2=>?_⟩
    .unfold zL;split
     .exact⟨zq5 _,λe=>by cases e⟩
     .split
      .rename_i hd;unfold Q1 at hd;rw[Bool.and_eq_true,beq_iff_eq]at hd;exact⟨r8,λ_=>hd.1⟩
      .exact⟨r8,λe=>by cases e⟩
    .have g1:=K8 h1;have g2:(cG ws s).failed=false:=(cO _ g1).2.1;have:=rZ g2;have h9:Mo (cG ws s) (sG ws (bB ws om (cG ws s))):=(bD _).trans K7;have:=h9.2.1;omega
theorem acu:((zO ws s).ak<=1/\((zO ws s).op=2->(zO ws s).ak=1))/\((vh ws s).failed=false->(vh ws s).vars.length=0->Ve (zO ws s)):=by
 unfold zO vh;split
 .exact⟨⟨zq5 _,λe=>by cases e⟩,λ_ _=>zq1 (zq0 rfl)⟩
 .refine⟨⟨r8,λe=>by(have e:Rk ws (cG ws s)=2:=e;unfold Rk at e;split at e <;> omega)⟩,λh1 h2=>?_⟩;have g1:=(mb h1).1;have g2:(cG ws s).failed=false:=by
   unfold CJ at g1;split at g1
   .exact g1
   .exact(cO _ g1).2.1
  have:=rZ g2;have h9:Mo (cG ws s) (dS ws (CJ ws (cG ws s))):=Dt.trans fq;have:=h9.2.1;omega
theorem afj(h:gV s):gV (Kr ws s):=by
 obtain⟨h1,h2⟩:=@afn ws s;have hm:Mo s (bB ws lj (mx ws s)):=O1.trans (bD _);unfold Kr;refine gV.add (h.of hm.1 (λe=>(O2 (cO _ e).2.1).1) hm.2.1) h1 (λg1 g2=>h2 (cO _ g1).2.1 ?_);have:=(@bD ws (mx ws s) lj).2.1;omega
theorem Wm(h:gV s):gV (jq ws s):=by
 obtain⟨h1,h2⟩:=@acu ws (bB ws fI s);unfold jq;refine gV.add (h.of E6.1 (λe=>(cO _ (Lv (cO _ e).2.1)).2.1) E6.2.1) h1 (λg1 g2=>h2 (cO _ g1).2.1 ?_);have:=(@bD ws (vh ws (bB ws fI s)) jh).2.1;have:(Pm ws s).vars.length=0:=g2;unfold Pm at this;omega
theorem zfs{k:ByteArray}(h:gV s):gV (bB ws k s):=h.of (bD k).1 (λe=>(cO _ e).2.1) (bD k).2.1
theorem acm(h:gV s):gV s.adv:=h.of rfl (λe=>e) (zq4 _)
theorem V8(h:gV s):gV (dZ lh s):=h.add ⟨zq5 _,λe=>by cases e⟩ (λ_ _=>zq1 (zq1 (zq0 rfl)))
variable {blk:PS->PS}
theorem acq(hb:∀t,gV t->gV (blk t))(h:gV s):gV (Kd blk ws s):=by
 have hA:gV (fO blk ws s):=hb _ (Wm (zfs h));unfold Kd;split
 .exact(hb _ ((V8 (acm hA)).ot _ _)).nx _ _
 .exact hA.ot _ _
theorem ae7(hb:∀t,gV t->gV (blk t))(h:gV s):gV (CW blk ws s):=by
 have hA:gV (rN blk ws s):=hb _ (Wm (zfs h));unfold CW;exact((V8 hA).nx _ _).ot _ _
theorem act(hb:∀t,gV t->gV (blk t))(h:gV s):gV (vf blk ws s):=by
 unfold vf;split
 .exact acq hb h
 .split
  .exact ae7 hb h
  .exact afj h
theorem Vk{c:PS->PS}(hc:∀t,gV t->gV (c t)):∀(n:Nat) {s:PS},gV s->gV (mV c ws n s)
 |0,_,h=>h
 |n+1,s,h=>by
  simp only[mV];split
  .exact h
  .exact Vk hc n (hc s h)
theorem Vi:∀(f:Nat) {s:PS},gV s->gV (FG ws f s)
 |0,_,h=>h
 |f+1,s,h=>by
  simp only[FG];exact zfs (Vk (λt ht=>act (λu hu=>Vi f hu) ht) _ (zfs h))
theorem afg(ws:List ByteArray):gV (dH ws a9):=by
 have h0:gV (F9 ws (bB ws oq a9)):=by
  have hn:(F9 ws (bB ws oq a9)).nodes=[]:=by rw[wH,aX];rfl
  exact⟨by rw[hn];simp,by rw[hn];simp⟩
 have h1:gV (Qq ws a9):=by
  unfold Qq;exact(Vi _ h0).add ⟨zq5 _,λe=>by cases e⟩ (λ_ _=>zq1 (zq1 (zq1 rfl)))
 unfold dH;split
 .exact h1
 .exact h1.of rfl (λe=>by cases e) (zq4 _)
end
def QT(cs:List (Int × Int))(st:List Int)(v:Int):Prop:=∀P:Int->Prop,(∀u,u∈st->P u)->(∀a n,P a->(a,n)∈cs->P n)->P v
section
variable {cs:List (Int × Int)} {st:List Int} {val:Nat->Int} {f:CF}
theorem QT.base{v:Int}(h:v∈st):QT cs st v:=λ_ h1 _=>h1 v h
theorem QT.step{a n:Int}(h:QT cs st a)(hm:(a,n)∈cs):QT cs st n:=λP h1 h2=>h2 a n (h P h1 h2) hm
theorem GK(hs:ky cs){a n:Int}:iM cs a=some n↔(a,n)∈cs:=by
 unfold iM;constructor
 .intro h;obtain⟨i,hi,rfl⟩:=Option.map_eq_some_iff.1 h;obtain⟨hl,he⟩:=ey hi;have e:cs.getD i (0,0)=cs[i]:=by rw[getD_eq_getElem?_getD,getElem?_eq_getElem hl];rfl
  rw[e,<-he];exact getElem_mem hl
 .intro h;obtain⟨i,hl,he⟩:=mem_iff_getElem.1 h;rw[yj hs hl (by rw[he])];show some (cs.getD i (0,0)).2=some n;rw[getD_eq_getElem?_getD,getElem?_eq_getElem hl,Option.getD_some,he]
theorem PJ:∀(m:Nat) {V:List Int} {a:Int},Am cs V->cs.length<m+V.length->(∀b∈V,∀n,iM cs b=some n->(iM cs n).isSome=true->n∈V\/n=a) ->
  Am cs (vV (iM cs) m V a)/\(∀b∈V,b∈vV (iM cs) m V a)/\(∀b∈vV (iM cs) m V a,∀n,iM cs b=some n->(iM cs n).isSome=true->n∈vV (iM cs) m V a)/\((iM cs a).isSome=true->a∈vV (iM cs) m V a)
 |0,V,a,h,hl,_=>by have:=h.le;omega
 |m+1,V,a,h,hl,hc=>by
  cases ha:iM cs a with
  |none =>
   rw[Ct ha];refine⟨h,λ_ hb=>hb,λb hb n h1 h2=>?_,λhh=>by cases hh⟩;rcases hc b hb n h1 h2 with h3|rfl
   .exact h3
   .rw[ha]at h2;cases h2
  |some n0 =>
   by_cases hV:a∈V
   .rw[PH ha hV];refine⟨h,λ_ hb=>hb,λb hb n h1 h2=>?_,λ_=>hV⟩;rcases hc b hb n h1 h2 with h3|rfl
    .exact h3
    .exact hV
   .rw[PG ha hV];have hm:a∈cs.map (·.1):=by
     unfold iM at ha;obtain⟨i,hi,-⟩:=Option.map_eq_some_iff.1 ha;exact rA hi
    obtain⟨g1,g2,g3,-⟩:=PJ m (h.cons hV hm) (by rw[length_cons];omega) (a:=n0) (λb hb n h1 h2=>by
     rcases mem_cons.1 hb with rfl|hb
     .rw[ha]at h1;injection h1 with h1;exact zq1 h1.symm
     .rcases hc b hb n h1 h2 with h3|rfl
      .exact zq0 (mem_cons_of_mem _ h3)
      .exact zq0 mem_cons_self)
    exact⟨g1,λb hb=>g2 b (mem_cons_of_mem _ hb),g3,λ_=>g2 a mem_cons_self⟩
theorem Hd:∀(l:List Int) {V:List Int},Am cs V->(∀b∈V,∀n,iM cs b=some n->(iM cs n).isSome=true->n∈V) ->
  Am cs (mw (iM cs) cs.length V l)/\(∀b∈V,b∈mw (iM cs) cs.length V l)/\(∀b∈mw (iM cs) cs.length V l,∀n,iM cs b=some n->(iM cs n).isSome=true->n∈mw (iM cs) cs.length V l)/\∀v∈l,(iM cs v).isSome=true->v∈mw (iM cs) cs.length V l
 |[],V,h,hc=>⟨h,λ_ hb=>hb,hc,λv hv=>by simp at hv⟩
 |a::l,V,h,hc=>by
  obtain⟨g1,g2,g3,g4⟩:=PJ (cs.length+1) (a:=a) h (by omega) (λb hb n h1 h2=>zq0 (hc b hb n h1 h2));obtain⟨k1,k2,k3,k4⟩:=Hd l g1 g3;refine⟨k1,λb hb=>k2 b (g2 b hb),k3,λv hv hs=>?_⟩;rcases mem_cons.1 hv with rfl|hv
  .exact k2 _ (g4 hs)
  .exact k4 v hv hs
theorem TS(hs:ky cs)(h:∀c∈cs,QT cs st c.1):(mw (iM cs) cs.length [] st).length=cs.length:=by
 obtain⟨h1,-,h3,h4⟩:=Hd (cs:=cs) st (Am.nil cs) (λb hb=>by simp at hb);have hr:∀v,QT cs st v->(iM cs v).isSome=true->v∈mw (iM cs) cs.length [] st:=λv hv=>by
  refine hv (λv=>(iM cs v).isSome=true->v∈mw (iM cs) cs.length [] st) (λ_ hm=>h4 _ hm) (λa n ih hm ce=>?_)
  have:=(GK hs).2 hm;exact h3 _ (ih (by rw[this];rfl)) _ this ce
 have Jn:∀a∈cs.map (·.1),a∈mw (iM cs) cs.length [] st:=λa ha=>by
  obtain⟨c,hc,rfl⟩:=mem_map.1 ha;exact hr _ (h c hc) (by rw[(GK hs).2 (show(c.1,c.2)∈cs from hc)];rfl)
 have cH:(cs.map (·.1)).Nodup:=by
  unfold ky at hs;exact(pairwise_map.2 hs).imp (λh=>Int.ne_of_lt h)
 have:=cH.length_le_of_subset Jn;have:=h1.le;rw[length_map]at *;omega
theorem Dr:∀{q:List (Int × Int)} {v e:Int},(∀c∈q,c∈cs)->Rc q v e->QT cs st v->(∀c∈q,QT cs st c.1)/\QT cs st e
 |[],_,_,_,h,_=>h.elim
 |[c],v,e,hq,h,hr=>by
  obtain⟨rfl,rfl⟩:=h;exact⟨λd hd=>by rw[mem_singleton.1 hd];exact hr,hr.step (hq c (by simp))⟩
 |c::d::r,v,e,hq,h,hr=>by
  obtain⟨rfl,h2⟩:=h;obtain⟨g1,g2⟩:=Dr (λx hx=>hq x (by simp[hx])) h2 (hr.step (hq c (by simp)));exact⟨λx hx=>by
   rcases mem_cons.1 hx with rfl|hx
   .exact hr
   .exact g1 x hx,g2⟩
theorem xM:∀{l:List Pr} {cs:List (Int × Int)},qf val l cs->(∀p∈l,∃q,Rc q (val p.l) (val p.r)/\∀c∈q,c∈cs)/\∀c∈cs,∃p∈l,∃q,Rc q (val p.l) (val p.r)/\(∀d∈q,d∈cs)/\c∈q
 |[],cs,h=>by
  rw[qf]at h;subst h;exact⟨λp hp=>by simp at hp,λc hc=>by simp at hc⟩
 |p::r,cs,h=>by
  obtain⟨q,cs',h1,h2,-,h4⟩:=h;obtain⟨g1,g2⟩:=xM h4;have hq:∀c∈q,c∈cs:=λc hc=>h1.symm.subset (mem_append_left _ hc);have hc':∀c∈cs',c∈cs:=λc hc=>h1.symm.subset (mem_append_right _ hc);refine⟨λx hx=>?_,λc hc=>?_⟩
  .rcases mem_cons.1 hx with rfl|hx
   .exact⟨q,h2,hq⟩
   .obtain⟨u,k1,k2⟩:=g1 x hx;exact⟨u,k1,λc hc=>hc' c (k2 c hc)⟩
  .rcases mem_append.1 (h1.subset hc) with hc|hc
   .exact⟨p,by simp,q,h2,hq,hc⟩
   .obtain⟨x,hx,u,k1,k2,k3⟩:=g2 c hc;exact⟨x,by simp[hx],u,k1,λc hc=>hc' c (k2 c hc),k3⟩
def Hr(st:List Int)(i:Nat):Int:=if i=0 then 0 else st.getD (i-1) 0
theorem kf(st:List Int)(i:Nat):Hr st (1+i)=st.getD i 0:=by unfold Hr;rw[if_neg (by omega),show 1+i-1=i by omega]
def Vb(cs:List (Int × Int))(st:List Int)(v:Int):Prop:=v=0\/QT cs st v
theorem TR(hc:xG cs)(hm:mj cs val f){s:List Nat}{p:Pr}(hp:p∈f.ow)(h:∀c∈s,Vb cs st (val c)):∀c∈nG s p,Vb cs st (val c):=by
 unfold nG;split
 .rename_i hh;intro c iw;rcases mem_append.1 iw with iw|iw
  .exact h c iw
  .rw[mem_singleton.1 iw];obtain⟨q,h1,h2⟩:=(xM hm.sp).1 p hp;obtain⟨d,t,rfl,hd⟩:=sM h1;have tt:=hc.ps d (h2 d (by simp));rcases h p.l hh.1 with h3|h3
   .omega
   .exact zq1 (Dr h2 h1 h3).2
 .exact h
theorem Ha(hc:xG cs)(hm:mj cs val f):∀(l:List Pr) {s:List Nat},(∀p∈l,p∈f.ow)->(∀c∈s,Vb cs st (val c))->∀c∈l.foldl nG s,Vb cs st (val c)
 |[],_,_,h=>h
 |p::l,s,hl,h=>by
  rw[foldl_cons];exact Ha hc hm l (λq hq=>hl q (by simp[hq])) (TR hc hm (hl p (by simp)) h)
theorem Hb(hc:xG cs)(hm:mj cs val f):∀(n:Nat) {s:List Nat},(∀c∈s,Vb cs st (val c))->∀c∈TQ f n s,Vb cs st (val c)
 |0,_,h=>h
 |n+1,s,h=>by
  unfold TQ;have h1:=Ha hc hm f.ow (λp hp=>hp) h;split
  .exact h
  .exact Hb hc hm n h1
theorem GT:∀(l:List Nat) {ms:List Nat} {c:Nat},c∈l.foldl gB ms->c∈ms\/c∈l
 |[],_,_,h=>zq0 h
 |a::l,ms,c,h=>by
  rw[foldl_cons]at h;rcases GT l h with h|h
  .unfold gB at h;split at h
   .exact zq0 h
   .rcases mem_append.1 h with h|h
    .exact zq0 h
    .rw[mem_singleton.1 h];exact zq1 (by simp)
  .exact zq1 (by simp[h])
theorem RH(hs:ky cs)(hc:xG cs)(h:ie cs (Hr st) f)(hl:fJ f=[]):(mw (iM cs) cs.length [] st).length=cs.length:=by
 obtain⟨val,hm,hv⟩:=h;have h0:∀c∈TP f,Vb cs st (val c):=by
  intro c iw;rcases GT _ iw with iw|iw
  .simp at iw
  .have key:∀i,i<4->Vb cs st (val (f.cl.getD (1+i) 0)):=λi hi=>by
    rw[hv (1+i) (by omega),kf];by_cases hl:i<st.length
    .exact zq1 (.base (by rw[getD_eq_getElem?_getD,getElem?_eq_getElem hl];exact getElem_mem hl))
    .left;rw[getD_eq_getElem?_getD,getElem?_eq_none (by omega)];rfl
   simp only[mem_cons,not_mem_nil,or_false]at iw;rcases iw with rfl|rfl|rfl|rfl
   .exact key 0 (by omega)
   .exact key 1 (by omega)
   .exact key 2 (by omega)
   .exact key 3 (by omega)
 have hR:=Hb (st:=st) hc hm 25 h0;refine TS hs (λc iw=>?_);obtain⟨p,hp,q,h1,h2,h3⟩:=(xM hm.sp).2 c iw;have er:p.l∈mL f:=by
  obtain⟨i,hi,rfl⟩:=mem_iff_getElem.1 hp;unfold fJ at hl;rw[filter_eq_nil_iff]at hl;have:=hl i (by simpa using hi);simp only[Bool.not_eq_true,Bool.not_eq_false',decide_eq_true_eq]at this;have e:owA f i=f.ow[i]:=dq hi;rw[e]at this;exact this
 have tt:0<val p.l:=by
  obtain⟨d,t,rfl,hd⟩:=sM h1;rw[<-hd];exact hc.ps d (h2 d (by simp))
 rcases hR p.l er with h4|h4
 .omega
 .exact(Dr h2 h1 h4).1 c h3
end
structure NdS(nds:List Nd)(nv:Nat):Prop where
 o:J9 nds
 ak:∀n,(nds.getD n bj).ak<=1/\((nds.getD n bj).op=2->(nds.getD n bj).ak=1)
 v:∀n,¬ Ve (nds.getD n bj)->(nds.getD n bj).v<nv
 op:∀n,(nds.getD n bj).op<=10
structure SfS(c:Cd)(s:Sr):Prop where
 td:kx s
 cl:∀n,∀e∈bN s n,Wq c s n e.f
structure wb(nds:List Nd)(nv:Nat)(s:Sr)(m:MS):Prop where
 ln:m.st.length=nv
 srt:ky m.cs
 ps:∀c∈m.cs,0<c.1
 nd:m.nd<nds.length
 wh:m.wh=0\/m.wh=1
 go:m.wh=0->(nds.getD m.nd bj).op≠0
 fit:Db s m.nd m.cs (Hr m.st)
theorem pE{cs:List (Int × Int)}(hs:ky cs)(hp:∀c∈cs,0<c.1):xG cs:=⟨(pairwise_map.2 hs).imp (λh=>Int.ne_of_lt h),hp⟩
theorem acz:∀(l:List (Int × Int)) (i:Nat) (h:i<l.length),l.Perm (l[i]::l.eraseIdx i)
 |[],_,h=>by simp at h
 |a::l,0,_=>List.Perm.refl _
 |a::l,i+1,h=>by
  have h':i<l.length:=by simpa using h
  simp only[getElem_cons_succ,eraseIdx_cons_succ];exact((acz l i h').cons a).trans (List.Perm.swap _ _ _)
theorem afm:∀(l:List (Int × Int)) (i:Nat) (x:Int × Int),i<l.length->(l.set i x).Perm (x::l.eraseIdx i)
 |[],_,_,h=>by simp at h
 |a::l,0,_,_=>List.Perm.refl _
 |a::l,i+1,x,h=>by
  have h':i<l.length:=by simpa using h
  simp only[set_cons_succ,eraseIdx_cons_succ];exact((afm l i x h').cons a).trans (List.Perm.swap _ _ _)
theorem ie.perm{cs cs':List (Int × Int)}{t:Nat->Int}{f:CF}(h:ie cs t f)(hp:cs.Perm cs'):ie cs' t f:=by
 obtain⟨v,h1,h2⟩:=h;exact⟨v,⟨h1.nl,h1.ap,wi hp h1.sp⟩,h2⟩
theorem L6{cs cs0:List (Int × Int)}{x y:Int}(hs:ky cs)(hp:cs.Perm ((x,y)::cs0)):∃i,i<cs.length/\cq cs x=some i/\cs.getD i (0,0)=(x,y)/\(cs.eraseIdx i).Perm cs0:=by
 obtain⟨i,hi,he⟩:=mem_iff_getElem.1 (hp.symm.subset mem_cons_self);refine⟨i,hi,yj hs hi (by rw[he]),by rw[getD_eq_getElem?_getD,getElem?_eq_getElem hi,Option.getD_some,he],?_⟩;have:=(acz cs i hi).symm.trans hp;rw[he]at this;exact this.cons_inv
theorem sB(cs:List (Int × Int))(a b:Int):((a,b)::cs).Perm (CH cs a b):=by
 unfold CH;have:=(perm_middle (a:=(a,b)) (l₁:=cs.take (cQ cs a)) (l₂:=cs.drop (cQ cs a))).symm;rwa [take_append_drop]at this
theorem zy{st:List Int}{v:Nat}(hv:v<st.length)(x:Int):vS (Hr st) (1+v) x=Hr (st.set v x):=by
 funext i;unfold vS;by_cases e:i=1+v
 .rw[if_pos e,e,kf,bS _ _ _ _ _ hv,if_pos rfl]
 .rw[if_neg e];unfold Hr;by_cases h0:i=0
  .rw[if_pos h0,if_pos h0]
  .rw[if_neg h0,if_neg h0,bS _ _ _ _ _ hv,if_neg (by omega)]
theorem Pg{st:List Int}{k i:Nat}(hk:k<=1):teV (Hr st) k i=vU st k i:=by
 unfold teV vU;by_cases e:k=1
 .rw[if_pos e,if_neg (by omega),kf]
 .rw[if_neg e,if_pos (by omega)]
section
variable {c:Cd} {nds:List Nd} {nv:Nat} {s:Sr} {m:MS}
theorem ju(hc:c.nds=nds)(hS:SfS c s){n:Nat}(h1:m.st.length=nv)(h2:ky m.cs)(h3:∀c∈m.cs,0<c.1)(h4:n<nds.length)(h5:m.wh=0)(h6:Db s n m.cs (Hr m.st)):wb nds nv s (pi nds m n):=by
 unfold pi;split
 .rename_i h0;have h0:(nds.getD n bj).op=0:=h0;obtain⟨e,he,hf⟩:=h6;have hl:=(hS.cl n e he).en (by rw[hc];exact h0);have hd:qj m=true:=by
   unfold qj;rw[RH h2 (pE h2 h3) hf hl];simp
  have qx:(if qj m=true then 1 else 2)=1:=if_pos hd;refine⟨h1,h2,h3,h4,zq1 qx,λh=>?_,⟨e,he,hf⟩⟩;have h:(if qj m=true then 1 else 2)=0:=h;rw[qx]at h;cases h
 .rename_i h0;exact⟨h1,h2,h3,h4,zq0 h5,λ_=>h0,h6⟩
theorem afo(hc:c.nds=nds)(hN:NdS nds nv)(yF:nv<=4)(hS:SfS c s)(h:wb nds nv s m)(ch:Int):wb nds nv s (kJ nds m ch).1:=by
 unfold kJ;by_cases hw:m.wh≠0
 .rw[if_pos hw];exact h
 .rw[if_neg hw];have fS:m.wh=0:=by omega
  have dV:=h.go fS;obtain⟨nd,cH⟩:∃nd,nd=nds.getD m.nd bj:=⟨_,rfl⟩;rw[show Oc nds m.nd=nd from cH.symm];obtain⟨e,he,hf⟩:=h.fit;have hT:=hS.td.at m.nd e he;have cl:=hS.cl m.nd e he;have aY:=hT.ok;obtain⟨f,Qc⟩:∃f,f=e.f:=⟨_,rfl⟩;rw[<-Qc]at hf hT cl aY;have ix:=pE h.srt h.ps;have zS:=hN.o.v m.nd;have DP:=hN.ak m.nd;have P4:=hN.o.nx m.nd h.nd dV;have P3:=hN.o.ot m.nd h.nd;have hNw:=hN.v m.nd;have hNo:=hN.op m.nd;rw[<-cH]at zS DP P4 P3 hNw hNo dV;have cnu:=cl.nu;have cda:=cl.da;have cfu:=cl.fu;have cnx:=cl.nx;have cot:=cl.ot;rw[hc,<-cH]at cnu cda cfu cnx cot;obtain⟨val,hm,hs⟩:=hf;have mu:∀i,i<4->val (f.cl.getD (1+i) 0)=m.st.getD i 0:=λi hi=>by rw[hs (1+i) (by omega),kf]
  have V2:val (lK f nd.ak nd.ai)=vU m.st nd.ak nd.ai:=by rw[FJ hm hs zS.2,Pg DP.1]
  simp only;by_cases o1:nd.op=1
  .rw[if_pos o1];have hv:=hNw (by unfold Ve;omega);have hg:bJ (setC f (1+nd.v) (lK f nd.ak nd.ai))∈(d7 nd f).nx:=(by unfold d7;rw[if_neg dV,if_pos o1];simp);have jB:=ie.td (aY.sC (1+nd.v) (aY.cT nd.ak nd.ai)) (DL aY.c5 hm hs (c:=lK f nd.ak nd.ai) zS.1);rw[V2,zy (by rw[h.ln];exact hv)]at jB;exact ju hc hS (by rw[length_set];exact h.ln) h.srt h.ps P4 fS (cnx _ hg _ _ ix jB)
  .rw[if_neg o1];by_cases o4:nd.op=4
   .rw[if_pos o4];unfold Ix;split
    .exact h
    .rename_i hrange;split
     .exact h
     .rename_i tr;have hv:=hNw (by unfold Ve;omega);have aem:¬ 24<=aD f:=λhh=>by
       unfold d7 at cfu;rw[if_neg dV,if_neg o1,if_neg (by omega),if_neg (by omega),if_pos o4,if_pos hh]at cfu;cases cfu
      have hg:bJ (FK f nd.v)∈(d7 nd f).nx:=(by unfold d7;rw[if_neg dV,if_neg o1,if_neg (by omega),if_neg (by omega),if_pos o4,if_neg aem];simp);have jB:=ie.td (ya (v:=nd.v) aY (by omega)) (Rn aY.c5 zS.1 ch ⟨val,hm,hs⟩);rw[zy (by rw[h.ln];exact hv)]at jB;have Bi:=jB.perm (sB m.cs ch 0);have ce:=xQ (n:=0) h.srt tr;have Bs:∀c∈CH m.cs ch 0,0<c.1:=λx hx=>by
       rcases mem_cons.1 ((sB m.cs ch 0).symm.subset hx) with rfl|hx
       .show 0<ch;omega
       .exact h.ps x hx
      exact ju hc hS (by rw[length_set];exact h.ln) ce Bs P4 fS (cnx _ hg _ _ (pE ce Bs) Bi)
   .rw[if_neg o4];by_cases o2:nd.op=2
    .rw[if_pos o2];have hv:=hNw (by unfold Ve;omega);have ho:d7 nd f=bV (gR f nd.ai) (λg=>gD g nd):=(by unfold d7;rw[if_neg dV,if_neg o1,if_pos o2]);rw[ho]at cnu cda cfu cnx;obtain⟨g,hg,val',g1,g2,g3,r,j,g4,g5⟩:=ze aY zS.2 cnu cda cfu ⟨val,hm,hs⟩;obtain⟨cs0,p1,-⟩:=zd g1 g4 g5;have jB:=Mk (n:=nd) g2 zS.1 g1 g3 g4 g5;rw[g3 (1+nd.ai) (by omega),kf]at p1;obtain⟨i,hi,i1,i2,-⟩:=L6 h.srt p1;have V3:vU m.st nd.ak nd.ai=m.st.getD nd.ai 0:=(by unfold vU;rw[if_neg (by have:=DP.2 o2;omega)]);have iP:au (gD g nd):=(by unfold gD;exact g2.sC _ (g2.oA _).2);have Bi:=jB.td iP;rw[zy (by rw[h.ln];exact hv)]at Bi;unfold P0;rw[V3,i1];simp only;rw[i2];show wb nds nv s (ni nds { m with st:=m.st.set nd.v (val' r) } nd (m.st.getD nd.ai 0) true);unfold ni;rw[if_pos rfl];exact ju hc hS (by rw[length_set];exact h.ln) h.srt h.ps P4 fS (cnx _ (mem_map.2 ⟨g,hg,rfl⟩) _ _ ix Bi)
    .rw[if_neg o2];by_cases o3:nd.op=3
     .rw[if_pos o3];have ho:d7 nd f=bV (gR f nd.v) (λg=>q9 g nd):=(by unfold d7;rw[if_neg dV,if_neg o1,if_neg o2,if_pos o3]);rw[ho]at cnu cda cfu cnx;obtain⟨g,hg,val',g1,g2,g3,r,j,g4,g5⟩:=ze aY zS.1 cnu cda cfu ⟨val,hm,hs⟩;obtain⟨y,cs0,p1,jB⟩:=Tm (n:=nd) zS.1 zS.2 g1 g3 g4 g5;rw[kf]at p1 jB;rw[Pg DP.1]at jB;obtain⟨i,hi,i1,i2,i3⟩:=L6 h.srt p1;rw[i1];simp only;have iP:au (q9 g nd):=(by unfold q9;exact g2.sO (λ_=>rfl) (g2.cT _ _) (g2.oA _).1);have hpm:((m.st.getD nd.v 0,vU m.st nd.ak nd.ai)::cs0).Perm (uV m.cs i (vU m.st nd.ak nd.ai)):=by
       unfold uV;rw[i2];exact(i3.symm.cons _).trans (afm _ _ _ hi).symm
      have Bi:=(jB.td iP).perm hpm;have ce:=GN h.srt i (vU m.st nd.ak nd.ai);have Bs:∀c∈uV m.cs i (vU m.st nd.ak nd.ai),0<c.1:=λx hx=>by
       rcases mem_cons.1 (hpm.symm.subset hx) with rfl|hx
       .exact h.ps (m.st.getD nd.v 0,y) (p1.symm.subset mem_cons_self)
       .exact h.ps x (p1.symm.subset (mem_cons_of_mem _ hx))
      unfold ni;rw[if_pos rfl];exact ju hc hS h.ln ce Bs P4 fS (cnx _ (mem_map.2 ⟨g,hg,rfl⟩) _ _ (pE ce Bs) Bi)
     .rw[if_neg o3];by_cases o5:nd.op=5
      .rw[if_pos o5];have ho:d7 nd f=bV (gR f nd.v) (λg=>rD g nd.v):=(by unfold d7;rw[if_neg dV,if_neg o1,if_neg o2,if_neg o3,if_neg o4,if_pos o5]);rw[ho]at cnu cda cfu cnx;obtain⟨g,hg,val',g1,g2,g3,r,j,g4,g5⟩:=ze aY zS.1 cnu cda cfu ⟨val,hm,hs⟩;obtain⟨y,cs0,p1,jB⟩:=RT zS.1 ix g1 g3 g4 g5;rw[kf]at p1;obtain⟨i,hi,i1,i2,i3⟩:=L6 h.srt p1;rw[i1];simp only;have iP:au (rD g nd.v):=(yq (N:=g.ap.length) ⟨g2,zq4 _,by rw[g4];rfl⟩).1;have Bi:=(jB.td iP).perm i3.symm;have ce:=Hf h.srt i;have Bs:∀c∈Kq m.cs i,0<c.1:=λx hx=>h.ps x ((eraseIdx_sublist _ _).subset hx);unfold ni;rw[if_pos rfl];exact ju hc hS h.ln ce Bs P4 fS (cnx _ (mem_map.2 ⟨g,hg,rfl⟩) _ _ (pE ce Bs) Bi)
      .rw[if_neg o5];by_cases o7:nd.op=7
       .rw[if_pos o7];have P3:=P3 (zq0 o7);have ho:d7 nd f=⟨[bJ f],[bJ f],false,false,false⟩:=(by unfold d7;rw[if_neg dV,if_neg o1,if_neg o2,if_neg o3,if_neg o4,if_neg o5,if_pos o7]);rw[ho]at cnx cot;have jB:=ie.td aY ⟨val,hm,hs⟩;unfold GR;split
        .exact ju hc hS h.ln h.srt h.ps P4 fS (cnx _ (by simp) _ _ ix jB)
        .exact ju hc hS h.ln h.srt h.ps P3 fS (cot _ (by simp) _ _ ix jB)
       .rw[if_neg o7];have key:∀(b:Bool),(b=true↔m.st.getD nd.v 0=vU m.st nd.ak nd.ai)->(b=true->∃g∈(kP f nd).1,ie m.cs (Hr m.st) g)/\(b=false->∃g∈(kP f nd).2,ie m.cs (Hr m.st) g):=by
         intro b hb;rw[<-V2,<-mu nd.v zS.1]at hb;refine⟨λh1=>?_,λh1=>?_⟩
         .have e1:=hb.1 h1;have hd:ew f (f.cl.getD (1+nd.v) 0) (lK f nd.ak nd.ai)=false:=by
           cases Qa:ew f (f.cl.getD (1+nd.v) 0) (lK f nd.ak nd.ai) with
           |false=>rfl
           |true=>exact absurd e1 (mj.dif ix hm Qa)
          refine⟨bJ (rL f (f.cl.getD (1+nd.v) 0) (lK f nd.ak nd.ai)),?_,ie.td (aY.jo (aY.get _) (jt hd)) (ie.jo aY.c5 hm hs e1)⟩;unfold kP;simp only;rw[hd];simp
         .have e1:val (f.cl.getD (1+nd.v) 0)≠val (lK f nd.ak nd.ai):=λe2=>by have:=hb.2 e2;rw[h1]at this;cases this
          refine⟨bJ (cC f (f.cl.getD (1+nd.v) 0) (lK f nd.ak nd.ai)),?_,ie.td (aY.pa (aY.get _) (aY.cT _ _)) ⟨val,hm.pa e1,hs⟩⟩;unfold kP;simp only;rw[if_neg (λe2=>e1 (by rw[e2]))];simp
        by_cases o8:nd.op=8
        .rw[if_pos o8];have P3:=P3 (zq1 (zq0 o8));have ho:d7 nd f=⟨(kP f nd).1,(kP f nd).2,false,false,false⟩:=(by unfold d7;rw[if_neg dV,if_neg o1,if_neg o2,if_neg o3,if_neg o4,if_neg o5,if_neg o7,if_pos o8]);rw[ho]at cnx cot;obtain⟨k1,k2⟩:=key (m.st.getD nd.v 0==vU m.st nd.ak nd.ai) (by simp);unfold GR;cases hb:(m.st.getD nd.v 0==vU m.st nd.ak nd.ai) with
         |true =>
          obtain⟨g,hg,jB⟩:=k1 hb;exact ju hc hS h.ln h.srt h.ps P4 fS (cnx g hg _ _ ix jB)
         |false =>
          obtain⟨g,hg,jB⟩:=k2 hb;exact ju hc hS h.ln h.srt h.ps P3 fS (cot g hg _ _ ix jB)
        .rw[if_neg o8];by_cases o9:nd.op=9
         .rw[if_pos o9];have P3:=P3 (zq1 (zq1 o9));have ho:d7 nd f=⟨(kP f nd).2,(kP f nd).1,false,false,false⟩:=(by unfold d7;rw[if_neg dV,if_neg o1,if_neg o2,if_neg o3,if_neg o4,if_neg o5,if_neg o7,if_neg o8,if_pos o9]);rw[ho]at cnx cot;obtain⟨k1,k2⟩:=key (m.st.getD nd.v 0==vU m.st nd.ak nd.ai) (by simp);unfold GR;cases hb:(m.st.getD nd.v 0==vU m.st nd.ak nd.ai) with
          |true =>
           obtain⟨g,hg,jB⟩:=k1 hb;have ax:(m.st.getD nd.v 0 != vU m.st nd.ak nd.ai)=false:=(by rw[bne,hb];rfl);rw[ax];exact ju hc hS h.ln h.srt h.ps P3 fS (cot g hg _ _ ix jB)
          |false =>
           obtain⟨g,hg,jB⟩:=k2 hb;have ax:(m.st.getD nd.v 0 != vU m.st nd.ak nd.ai)=true:=(by rw[bne,hb];rfl);rw[ax];exact ju hc hS h.ln h.srt h.ps P4 fS (cnx g hg _ _ ix jB)
         .rw[if_neg o9];split
          .have ho:d7 nd f=⟨[bJ f],[],false,false,false⟩:=(by unfold d7;rw[if_neg dV,if_neg o1,if_neg o2,if_neg o3,if_neg o4,if_neg o5,if_neg o7,if_neg o8,if_neg o9]);rw[ho]at cnx;exact ju hc hS h.ln h.srt h.ps P4 fS (cnx _ (by simp) _ _ ix (ie.td aY ⟨val,hm,hs⟩))
          .exact h
end
theorem nM(x y:List UInt8):(⟨x.toArray⟩++⟨y.toArray⟩:ByteArray)=⟨(x++y).toArray⟩:=by apply ByteArray.ext;simp[ByteArray.data_append]
def rh(t a:List UInt8):List UInt8:=if t=[] then a else t++[32,42,32]++a
def Qr(a b:List UInt8):List UInt8:=if a=[110,105,108] then b++[32,33,61,32]++a else a++[32,33,61,32]++b
theorem pR{t:List UInt8}(h:t≠[]):t.isEmpty=false:=by cases t with|nil=>exact absurd rfl h|cons x r=>rfl
theorem fW(w:World)(t a:List UInt8)(ht:t.length<=1000000)(ha:a.length<=1000000):Calls prog 101 #[.string ⟨t.toArray⟩,.string ⟨a.toArray⟩] w λe w'=>e=.returned (.string ⟨(rh t a).toArray⟩)/\w'=w:=by
 by_cases h:t=[]
 .have HE:Hid (rh t a=a):=ab (by unfold rh;rw[if_pos h]);have d0:t.isEmpty=true:=by rw[h];rfl
  clear h;go_enter func101,ntmps101;go_wp2_with fail
  go_ret;exact⟨by rw[uh HE];rfl,rfl⟩
 .have HE:Hid (rh t a=t++[32,42,32]++a):=ab (by unfold rh;rw[if_neg h]);have d0:=pR h;have n1:¬ 9223372036854775807<t.length+3:=by omega
  have n2:¬ 9223372036854775807<t.length+3+a.length:=by omega
  clear h;go_enter func101,ntmps101;go_wp2_with fail
  go_ret;exact⟨by
   show Ending.returned (.string ((⟨t.toArray⟩++⟨#[32,42,32]⟩)++⟨a.toArray⟩))=_;rw[uh HE,show(⟨#[32,42,32]⟩:ByteArray)=⟨([32,42,32]:List UInt8).toArray⟩ from rfl,nM,nM],rfl⟩
theorem Cr(w:World)(a b:List UInt8)(ha:a.length<=1000000)(hb:b.length<=1000000):Calls prog 102 #[.string ⟨a.toArray⟩,.string ⟨b.toArray⟩] w λe w'=>e=.returned (.string ⟨(Qr a b).toArray⟩)/\w'=w:=by
 by_cases h:a=[110,105,108]
 .have HE:Hid (Qr a b=b++[32,33,61,32]++a):=ab (by unfold Qr;rw[if_pos h]);subst h;have n1:¬ 9223372036854775807<b.length+4:=by omega
  have n2:¬ 9223372036854775807<b.length+4+3:=by omega
  go_enter func102,ntmps102;go_wp2_with fail
  go_ret;exact⟨by
   show Ending.returned (.string ((⟨b.toArray⟩++⟨#[32,33,61,32]⟩)++⟨#[110,105,108]⟩))=_;rw[uh HE,show(⟨#[32,33,61,32]⟩:ByteArray)=⟨([32,33,61,32]:List UInt8).toArray⟩ from rfl,show(⟨#[110,105,108]⟩:ByteArray)=⟨([110,105,108]:List UInt8).toArray⟩ from rfl,nM,nM],rfl⟩
 .have HE:Hid (Qr a b=a++[32,33,61,32]++b):=ab (by unfold Qr;rw[if_neg h]);have n1:¬ 9223372036854775807<a.length+4:=by omega
  have n2:¬ 9223372036854775807<a.length+4+b.length:=by omega
  have aM:(a==([110,105,108]:List UInt8))=false:=by rw[beq_eq_false_iff_ne];exact h
  go_enter func102,ntmps102;go_wp2_with fail
  go_ret;exact⟨by
   show Ending.returned (.string ((⟨a.toArray⟩++⟨#[32,33,61,32]⟩)++⟨b.toArray⟩))=_;rw[uh HE,show(⟨#[32,33,61,32]⟩:ByteArray)=⟨([32,33,61,32]:List UInt8).toArray⟩ from rfl,nM,nM],rfl⟩
def grL:List UInt8:=[65,66,67,68,69,70,71,72,73,74,75,76,77,78,79,80,81,82,83,84,85,86,87,88,89,90]
def jc(N:List (List UInt8)):List Value:=N.map (λl=>.string ⟨l.toArray⟩)
def naS(vs:List UInt8)(f:CF)(k:Nat)(N:List (List UInt8)):List (List UInt8):=N.set (f.cl.getD (1+k) 0) [vs.getD k 0]
def Wd(vs:List UInt8)(f:CF):Nat->List (List UInt8)->List (List UInt8)
 |0,N=>N
 |k+1,N=>Wd vs f k (naS vs f k N)
def Qo(r:List (List UInt8) × Nat)(c:Nat):List (List UInt8) × Nat:=if r.1.getD c []=[] then (r.1.set c [grL.getD r.2 0],r.2+1) else r
def JF(vs:List UInt8)(f:CF):List (List UInt8):=((range 24).foldl Qo ((Wd vs f vs.length (replicate 24 [])).set (f.cl.getD 0 0) [110,105,108],0)).1
theorem l7{N:List (List UInt8)}{j:Nat}(h:j<N.length):(jc N)[j]?=some (.string ⟨(N.getD j []).toArray⟩):=by simp[jc,h]
theorem zw(N:List (List UInt8))(j:Nat)(l:List UInt8):(jc N).set j (.string ⟨l.toArray⟩)=jc (N.set j l):=by simp[jc,map_set]
theorem grE:∀(n:Nat),n<26->(⟨#[65,66,67,68,69,70,71,72,73,74,75,76,77,78,79,80,81,82,83,84,85,86,87,88,89,90]⟩:ByteArray).extract n (n+1)=⟨[grL.getD n 0].toArray⟩
 |0,_=>by kernel_rfl
 |1,_=>by kernel_rfl
 |2,_=>by kernel_rfl
 |3,_=>by kernel_rfl
 |4,_=>by kernel_rfl
 |5,_=>by kernel_rfl
 |6,_=>by kernel_rfl
 |7,_=>by kernel_rfl
 |8,_=>by kernel_rfl
 |9,_=>by kernel_rfl
 |10,_=>by kernel_rfl
 |11,_=>by kernel_rfl
 |12,_=>by kernel_rfl
 |13,_=>by kernel_rfl
 |14,_=>by kernel_rfl
 |15,_=>by kernel_rfl
 |16,_=>by kernel_rfl
 |17,_=>by kernel_rfl
 |18,_=>by kernel_rfl
 |19,_=>by kernel_rfl
 |20,_=>by kernel_rfl
 |21,_=>by kernel_rfl
 |22,_=>by kernel_rfl
 |23,_=>by kernel_rfl
 |24,_=>by kernel_rfl
 |25,_=>by kernel_rfl
 |n+26,h=>absurd h (by omega)
theorem infoS24:(prog.info? 174).map (·.size)=some 24:=by kernel_rfl
section
variable {w:World} {A:Nat} {f:CF} {av ov lv:Value} {vs:List UInt8}
theorem TA(h:dm w A f av ov)(hO:au f)(hl:w.ownsRow 0 5 1 lv vs.length (bc vs))(mu:vs.length<=4):Calls prog 100 #[.pointer (some ⟨A,0,none⟩),lv] w λe w'=>e=.returned (.agg (jc (JF vs f)).toArray)/\Below w.heap.size w w':=by
 obtain⟨la,lc,gF,-,-⟩:=ah hl;subst gF;obtain⟨W2,d9⟩:∃W2,W2=(w.alloc (.cells (jc (replicate 24 [])).toArray 174)).alloc (.cells (jc (replicate 24 [])).toArray 174):=⟨_,rfl⟩;have ax:Below w.heap.size w W2:=by rw[d9];exact(af w _).trans ((af (w.alloc _) _).mono (by simp))
 have Vy:Bk W2 (w.heap.size+1) 174 (jc (replicate 24 [])):=by
  rw[d9];have:=Bk.new (w.alloc (.cells (jc (replicate 24 [])).toArray 174)) 174 (jc (replicate 24 []));simpa using this
 have zU:Bk W2 w.heap.size 174 (jc (replicate 24 [])):=by rw[d9];exact(Bk.new w _ _).alloc _
 obtain⟨B,hB⟩:∃B,B=w.heap.size+1:=⟨_,rfl⟩;rw[<-hB]at Vy;have H:=ab h;have HO:=ab hO;have HL:=ab hl;have H2:=ab (zq2 ax (zq2 Vy zU));simp only[jc,replicate,map_cons,map_nil]at d9;clear h hO hl ax Vy zU;go_enter func100,ntmps100;go_upto_region 2 with fail;rw[<-hB,<-d9];have nJ:=ab hB;clear d9 hB;have mE:=(uh H).below (uh H2).1;have bR:Hid (Bk W2 B 174 (jc (replicate 24 []))/\Bk W2 w.heap.size 174 (jc (replicate 24 []))/\Below w.heap.size w W2/\(replicate 24 ([]:List UInt8)).length=24/\Wd vs f vs.length (replicate 24 [])=Wd vs f vs.length (replicate 24 [])):=ab ⟨(uh H2).2.1,(uh H2).2.2,(uh H2).1,length_replicate,rfl⟩;obtain⟨F1,iT⟩:∃F1,F1=Wd vs f vs.length (replicate 24 []):=⟨_,rfl⟩;have Cz:=ab iT;have SV:IntKind.i64.wrap ((vs.length:Int)-1)=(vs.length:Int)-1:=by rw[IntKind.wrap_i64];omega
 clear mE iT;go_wp2_with fail
 go_loopg [6] vs.length (λgn iv wx=>∃(z:Int) (N:List (List UInt8)),z+1=(gn:Int)/\gn<=vs.length/\iv=.int .i64 z/\Hid (Bk wx B 174 (jc N)/\Bk wx w.heap.size 174 (jc (replicate 24 []))/\Below w.heap.size w wx/\N.length=24/\Wd vs f gn N=F1))
 case atStart=>exact⟨(vs.length:Int)-1,_,by omega,zq4 _,rfl,ab ⟨(uh H2).2.1,(uh H2).2.2,(uh H2).1,length_replicate,(uh Cz).symm⟩⟩
 case round =>
  clear bR SV;obtain⟨z,N,hz,Kl,rfl,hI⟩:=hrel;obtain⟨h1,h2,h3,h4,h5⟩:=uh hI;have hF:=(uh H).below h3;cases gk with
  |zero =>
   have du:z=-1:=(by omega);subst du;have hN:N=F1:=h5;subst hN;have x0:=hF.cls (i:=0) (by omega);unfold eR at x0;have jX:=(uh HO).get 0;have Ef:JF vs f=((List.range' 0 (24-0)).foldl Qo (N.set (f.cl.getD 0 0) [110,105,108],0)).1:=(by unfold JF;rw[<-uh Cz,range_eq_range']);obtain⟨cl,de⟩:∃cl,cl=f.cl.getD 0 0:=⟨_,rfl⟩;rw[<-de]at x0 jX Ef;have bc0:=h1.cell cl (l7 (by omega));have bz0:=h1.frz cl;have h6:=h1.set cl (.string ⟨([110,105,108]:List UInt8).toArray⟩);rw[zw]at h6;have RX:w.heap.size<=B:=(by have:=uh nJ;omega);have Vq:B≠w.heap.size:=(by have:=uh nJ;omega);have dy:Hid (Bk (wr.setCell ⟨B,cl,none⟩ (.string ⟨#[110,105,108]⟩)) B 174 (jc (N.set cl [110,105,108]))/\Bk (wr.setCell ⟨B,cl,none⟩ (.string ⟨#[110,105,108]⟩)) w.heap.size 174 (jc (replicate 24 []))/\Below w.heap.size w (wr.setCell ⟨B,cl,none⟩ (.string ⟨#[110,105,108]⟩))/\(N.set cl [110,105,108]).length=24/\0<=0/\((List.range' 0 (24-0)).foldl Qo (N.set cl [110,105,108],0)).1=JF vs f):=ab ⟨h6,h2.setO (p:=⟨B,cl,none⟩) Vq _,h3.setCell (p:=⟨B,cl,none⟩) RX _,by rw[length_set];exact h4,zq4 _,Ef.symm⟩;have k6:(cl:Int)<24:=(by omega);have WQ:Hid ((N.set cl [110,105,108]).length=24):=ab (by rw[length_set];exact h4);obtain⟨N1,mq⟩:∃N1,N1=N.set cl [110,105,108]:=⟨_,rfl⟩;rw[<-mq]at dy;clear hF h1 h2 h3 h4 h5 h6 hI Ef de jX RX Vq mq WQ hz Kl mu;go_wp2_with fail
   go_loopg [7,8] 24 (λgn hv iv wx=>∃(k hh:Nat) (N:List (List UInt8)),k+gn=24/\iv=.int .i64 k/\hv=.int .i64 hh/\Hid (Bk wx B 174 (jc N)/\Bk wx w.heap.size 174 (jc (replicate 24 []))/\Below w.heap.size w wx/\N.length=24/\hh<=k/\((List.range' k (24-k)).foldl Qo (N,hh)).1=JF vs f))
   case atStart=>exact⟨0,0,N1,by omega,rfl,rfl,dy⟩
   case round =>
    clear dy x0 bc0 bz0;obtain⟨k,hh,N,fC,rfl,rfl,hI⟩:=hrel;obtain⟨G2,AY⟩:∃G2,G2=gk:=⟨_,rfl⟩;obtain⟨h1,h2,h3,h4,h5,h6⟩:=uh hI;by_cases ar:k<24
    .have hd:decide ((k:Int)<(24:Int))=true:=(by simp;omega);have bcell:=h1.cell k (l7 (by omega));have bfrz:=h1.frz k;have Jk:List.range' k (24-k)=k::List.range' (k+1) (24-(k+1)):=(by rw[show 24-k=(24-(k+1))+1 by omega,range'_succ]);rw[Jk,foldl_cons]at h6;have k1:(0:Int)<=(k:Int):=(by omega);have k2:(k:Int)<(24:Int):=(by omega);by_cases he:N.getD k []=[]
     .have e6:Qo (N,hh) k=(N.set k [grL.getD hh 0],hh+1):=(by unfold Qo;rw[if_pos he]);rw[e6]at h6;have dE:(N.getD k []).isEmpty=true:=(by rw[he];rfl);obtain⟨b,hb⟩:∃b,b=grL.getD hh 0:=⟨_,rfl⟩;rw[<-hb]at h6;have g6:=h1.set k (.string ⟨[b].toArray⟩);rw[zw]at g6;have RX:w.heap.size<=B:=(by have:=uh nJ;omega);have Vq:B≠w.heap.size:=(by have:=uh nJ;omega);have HN:=ab (zq2 g6 (zq2 (h2.setO (p:=⟨B,k,none⟩) Vq (.string ⟨[b].toArray⟩)) (zq2 (h3.setCell (p:=⟨B,k,none⟩) RX (.string ⟨[b].toArray⟩)) (zq2 (show(N.set k [b]).length=24 by rw[length_set];exact h4) (zq2 (show hh+1<=k+1 by omega) h6)))));have m1:(0:Int)<=(hh:Int):=(by omega);have m2:(hh:Int)<=(hh:Int)+1:=(by omega);have m3:(hh:Int)+1<=26:=(by omega);have m4:hh<26:=(by omega);have zG:Hid ((⟨#[65,66,67,68,69,70,71,72,73,74,75,76,77,78,79,80,81,82,83,84,85,86,87,88,89,90]⟩:ByteArray).extract hh (hh+1)=⟨[b].toArray⟩):=ab (by rw[hb];exact grE hh m4);rw[he]at bcell;clear h1 h2 h3 h4 h5 h6 g6 e6 he Jk hI RX Vq hb;go_wp2_with fail
      go_roundg (G2-1)
      case rel=>exact⟨k+1,hh+1,N.set k [b],by omega,by go_num,by go_num,by rw[uh zG];exact HN⟩
      case measure=>omega
     .have e6:Qo (N,hh) k=(N,hh):=(by unfold Qo;rw[if_neg he]);rw[e6]at h6;have dE:(N.getD k []).isEmpty=false:=pR he;have HN:=ab (zq2 h1 (zq2 h2 (zq2 h3 (zq2 h4 (zq2 (show hh<=k+1 by omega) h6)))));obtain⟨nk,Qi⟩:∃nk,nk=N.getD k []:=⟨_,rfl⟩;rw[<-Qi]at bcell dE;clear h1 h2 h3 h4 h5 h6 e6 he Jk hI Qi;go_wp2_with fail
      go_roundg (G2-1)
      case rel=>exact⟨k+1,hh,N,by omega,by go_num,rfl,HN⟩
      case measure=>omega
    .have hd:decide ((k:Int)<(24:Int))=false:=(by simp;omega);have D7:24-k=0:=(by omega);rw[D7]at h6;have hNM:N=JF vs f:=h6;have dl:(jc N).length=24:=(by simp[jc,h4]);obtain⟨M,hM⟩:∃M,M=jc N:=⟨_,rfl⟩;rw[<-hM]at dl h1;have Si:wr.rangeAt B 0 M:=λj v hj=>by rw[Nat.zero_add];exact h1.cell j hj
     have qO:wr.there w.heap.size 0 M.toArray.size:=λj hj=>by
      rw[size_toArray,dl]at hj;rw[Nat.zero_add];exact⟨by rw[h2.cell j (l7 (by rw[length_replicate];exact hj))];rfl,h2.frz j⟩
     have cV:(prog.info? 174).map (·.size)=some M.length:=(by rw[dl];exact infoS24);have bT:(prog.info? 174).map (·.size)=some M.toArray.size:=(by rw[size_toArray,dl];exact infoS24);have s7:M.toArray.all (·.oneCell')=true:=all_oneCell_toArray (by
      intro v hv;rw[hM]at hv;obtain⟨o,_,rfl⟩:=mem_map.1 hv;rfl)
     have vp:∀(us:List Value) (o:Nat) (x:World),Below w.heap.size w x->Below w.heap.size w (x.setCells w.heap.size o us):=by
      intro us;induction us with
      |nil=>intro o x h;exact h
      |cons v r ih=>intro o x h;exact ih (o+1) _ (h.setCell (zq4 _) v)
     have HM:Hid (M=jc (JF vs f)):=ab (by rw[hM,hNM]);have HRg:=ab Si;have rl:=ab qO;have dy:=ab cV;have db:=ab bT;have C7:=ab s7;obtain⟨R0,zU⟩:∃R0,R0=w.heap.size:=⟨_,rfl⟩;have gH:Hid (Below w.heap.size w (wr.setCells R0 0 M)):=ab (by rw[zU];exact vp M 0 wr h3);rw[<-zU]at rl ⊢;have px:=ab zU;clear Si qO cV bT s7 vp hM dl h1 h2 h3 h4 h5 h6 hNM D7 hI zU;go_wp2_with (first|refine wpList_load_mid rfl 174 (.tmp 5) rfl B 0 rfl M _ (uh HRg) underlying174 rfl (uh dy) ?_|refine wpList_store_mid rfl 174 (.tmp 4) (.tmp 55) rfl R0 0 M.toArray rfl rfl (uh rl) (uh db) (uh C7) ?_)
     have Nx:(wr.setCells R0 0 M).rangeAt R0 0 M:=rangeAt_setCells_same wr R0 0 M (by simpa using uh rl);have hld:=run_loadVar_mid (P:=prog) (wr.setCells R0 0 M) R0 0 174 M _ Nx underlying174 rfl (uh dy);refine bodyPost_ret (v:=.agg M.toArray) ?_ rfl ⟨by rw[uh HM],uh gH⟩;simp[results,Tryz.results100,Act.put,asAddr,hld]
  |succ m =>
   have hzm:z=(m:Int):=(by omega);subst hzm;have zW:m<4:=(by omega);have x0:=hF.cls (i:=1+m) (by omega);unfold eR at x0;have jX:=(uh HO).get (1+m);have aF:=b8 (uh HL) h3;obtain⟨g,cap,cM,hgc,-⟩:=aS aF (by omega);simp only[Value.slice.injEq,true_and]at cM;obtain⟨rfl,rfl⟩:=cM;have y0:=aF.cellAt m (by omega);have hbv:(bc vs)[m]?=some (.int .u8 ((vs.getD m 0).toNat:Int)):=(by simp[bc,show m<vs.length by omega]);rw[hbv]at y0;have e5:Wd vs f m (N.set (f.cl.getD (1+m) 0) [vs.getD m 0])=F1:=h5;obtain⟨cl,de⟩:∃cl,cl=f.cl.getD (1+m) 0:=⟨_,rfl⟩;rw[<-de]at x0 jX e5;obtain⟨b,hb⟩:∃b,b=vs.getD m 0:=⟨_,rfl⟩;rw[<-hb]at y0 e5;have bc0:=h1.cell cl (l7 (by omega));have bz0:=h1.frz cl;have h6:=h1.set cl (.string ⟨[b].toArray⟩);rw[zw]at h6;have RX:w.heap.size<=B:=(by have:=uh nJ;omega);have Vq:B≠w.heap.size:=(by have:=uh nJ;omega);have HN:=ab (zq2 h6 (zq2 (h2.setO (p:=⟨B,cl,none⟩) Vq (.string ⟨[b].toArray⟩)) (zq2 (h3.setCell (p:=⟨B,cl,none⟩) RX (.string ⟨[b].toArray⟩)) (zq2 (show(N.set cl [b]).length=24 by rw[length_set];exact h4) e5))));have k6:(cl:Int)<24:=(by omega);have vD:m=0\/m=1\/m=2\/m=3:=(by omega);clear hF aF hbv h1 h2 h3 h4 h5 h6 e5 de hb hI hz zW Vq jX RX;rcases vD with rfl|rfl|rfl|rfl
   .have x0:wr.cell? ⟨A,1,none⟩=some (.int .i64 (cl:Int)):=x0;have k2:(0:Int)<(vs.length:Int):=(by omega);have kc:(1:Int)<=(lc:Int):=(by omega);have I3:(convert 101 9 (.slice (some ⟨g,0,none⟩) 1 lc)).run prog wr.drew=.ok (.string ⟨[b].toArray⟩) wr.drew:=run_convert_bytes_back wr.drew 101 9 5 ⟨g,0,none⟩ lc [b] underlying101 underlying5 underlying9 (λj hj=>by
     have uN:j=0:=(by simpa using hj);subst uN;exact y0)
    rw[show(((0:Nat):Int))=(0:Int) from rfl];clear Kl mu hgc;go_upto_region 6 with fail;go_region
    all_goals
     go_wp2_with fail
     go_roundg 0
     case rel=>exact⟨(0:Int)-1,_,by omega,by omega,by first|rfl|go_num,ab ⟨(uh HN).1.of_eq rfl,(uh HN).2.1.of_eq rfl,⟨(uh HN).2.2.1.os,(uh HN).2.2.1.tape,(uh HN).2.2.1.output,(uh HN).2.2.1.size,(uh HN).2.2.1.block⟩,(uh HN).2.2.2⟩⟩
     case measure=>omega
   .have x0:wr.cell? ⟨A,2,none⟩=some (.int .i64 (cl:Int)):=x0;have k2:(1:Int)<(vs.length:Int):=(by omega);have kc:(2:Int)<=(lc:Int):=(by omega);have I3:(convert 101 9 (.slice (some ⟨g,1,none⟩) 1 (lc-1))).run prog wr.drew=.ok (.string ⟨[b].toArray⟩) wr.drew:=run_convert_bytes_back wr.drew 101 9 5 ⟨g,1,none⟩ (lc-1) [b] underlying101 underlying5 underlying9 (λj hj=>by
     have uN:j=0:=(by simpa using hj);subst uN;exact y0)
    rw[show(((1:Nat):Int))=(1:Int) from rfl];clear Kl mu hgc;go_upto_region 6 with fail;go_region
    all_goals
     go_wp2_with fail
     go_roundg 1
     case rel=>exact⟨(1:Int)-1,_,by omega,by omega,by first|rfl|go_num,ab ⟨(uh HN).1.of_eq rfl,(uh HN).2.1.of_eq rfl,⟨(uh HN).2.2.1.os,(uh HN).2.2.1.tape,(uh HN).2.2.1.output,(uh HN).2.2.1.size,(uh HN).2.2.1.block⟩,(uh HN).2.2.2⟩⟩
     case measure=>omega
   .have x0:wr.cell? ⟨A,3,none⟩=some (.int .i64 (cl:Int)):=x0;have k2:(2:Int)<(vs.length:Int):=(by omega);have kc:(3:Int)<=(lc:Int):=(by omega);have I3:(convert 101 9 (.slice (some ⟨g,2,none⟩) 1 (lc-2))).run prog wr.drew=.ok (.string ⟨[b].toArray⟩) wr.drew:=run_convert_bytes_back wr.drew 101 9 5 ⟨g,2,none⟩ (lc-2) [b] underlying101 underlying5 underlying9 (λj hj=>by
     have uN:j=0:=(by simpa using hj);subst uN;exact y0)
    rw[show(((2:Nat):Int))=(2:Int) from rfl];clear Kl mu hgc;go_upto_region 6 with fail;go_region
    all_goals
     go_wp2_with fail
     go_roundg 2
     case rel=>exact⟨(2:Int)-1,_,by omega,by omega,by first|rfl|go_num,ab ⟨(uh HN).1.of_eq rfl,(uh HN).2.1.of_eq rfl,⟨(uh HN).2.2.1.os,(uh HN).2.2.1.tape,(uh HN).2.2.1.output,(uh HN).2.2.1.size,(uh HN).2.2.1.block⟩,(uh HN).2.2.2⟩⟩
     case measure=>omega
   .have x0:wr.cell? ⟨A,4,none⟩=some (.int .i64 (cl:Int)):=x0;have k2:(3:Int)<(vs.length:Int):=(by omega);have kc:(4:Int)<=(lc:Int):=(by omega);have I3:(convert 101 9 (.slice (some ⟨g,3,none⟩) 1 (lc-3))).run prog wr.drew=.ok (.string ⟨[b].toArray⟩) wr.drew:=run_convert_bytes_back wr.drew 101 9 5 ⟨g,3,none⟩ (lc-3) [b] underlying101 underlying5 underlying9 (λj hj=>by
     have uN:j=0:=(by simpa using hj);subst uN;exact y0)
    rw[show(((3:Nat):Int))=(3:Int) from rfl];clear Kl mu hgc;go_upto_region 6 with fail;go_region
    all_goals
     go_wp2_with fail
     go_roundg 3
     case rel=>exact⟨(3:Int)-1,_,by omega,by omega,by first|rfl|go_num,ab ⟨(uh HN).1.of_eq rfl,(uh HN).2.1.of_eq rfl,⟨(uh HN).2.2.1.os,(uh HN).2.2.1.tape,(uh HN).2.2.1.output,(uh HN).2.2.1.size,(uh HN).2.2.1.block⟩,(uh HN).2.2.2⟩⟩
     case measure=>omega
end
