import Derived.Test.YtciihepbeacppaaGreatM29
set_option maxRecDepth 100000
set_option maxHeartbeats 0
namespace Go.Proofs.YtciihepbeacppaaGreat
open Tryz Go.RowKit List World Below
set_option linter.unusedVariables false
def eK:List Int->List (Int × Int)
 |a::b::r=>(a,b)::eK r
 |_=>[]
theorem rV(l:List Int):(eK l).length=l.length / 2:=by
 induction l using eK.induct with
 |case1 a b r ih=>simp[eK,ih];omega
 |case2 l h =>
  cases l with
  |nil=>simp[eK]
  |cons a r =>
   cases r with
   |nil=>simp[eK]
   |cons b r=>exact absurd rfl (h a b r)
theorem OF(l:List Int)(hl:l.length%2=0)(a b:Int):eK (l++[a,b])=eK l++[(a,b)]:=by
 induction l using eK.induct with
 |case1 c d r ih=>simp only[cons_append,eK];rw[ih (by simp at hl;omega)]
 |case2 l h =>
  cases l with
  |nil=>rfl
  |cons c r =>
   cases r with
   |nil=>simp at hl
   |cons d r=>exact absurd rfl (h c d r)
theorem Fu{last:Int}{l:List Int}(h:Im last l=true):∀c∈eK l,last<c.1:=by
 induction l using eK.induct generalizing last with
 |case1 a b r ih =>
  rw[xO,Bool.and_eq_true,decide_eq_true_eq]at h;intro c hc;rcases mem_cons.1 hc with rfl|hc
  .exact h.1
  .have:=ih h.2 c hc;omega
 |case2 l hn=>intro c hc;rw[eK]at hc;cases hc;exact λa b r e=>hn a b r e
theorem Fv{last:Int}{l:List Int}(h:Im last l=true):ky (eK l):=by
 induction l using eK.induct generalizing last with
 |case1 a b r ih =>
  rw[xO,Bool.and_eq_true,decide_eq_true_eq]at h;exact pairwise_cons.2 ⟨λc hc=>Fu h.2 c hc,ih h.2⟩
 |case2 l hn=>rw[eK];exact List.Pairwise.nil;exact λa b r e=>hn a b r e
theorem KW{l:List (Int × Int)}{a n:Int}(h:∀c∈l,c.1<a):CH l a n=l++[(a,n)]/\cq l a=none:=by
 have hl:cQ l a=l.length:=by
  unfold cQ;rw[filter_eq_self.2 (λc hc=>by simpa using h c hc)]
 constructor
 .unfold CH;rw[hl];simp
 .unfold cq;rw[dif_neg (by omega)]
theorem JW{l:List Int}{k:Nat}(hk:2*k+1<l.length):l.take (2*(k+1))=l.take (2*k)++[l.getD (2*k) 0,l.getD (2*k+1) 0]:=by
 rw[show 2*(k+1)=2*k+1+1 by omega,take_succ_eq_append_getElem hk,take_succ_eq_append_getElem (by omega),append_assoc];have h1:2*k<l.length:=by omega
 simp[hk,h1]
theorem OG{l:List Int}{k:Nat}(hk:2*k+1<l.length):eK (l.take (2*(k+1)))=eK (l.take (2*k))++[(l.getD (2*k) 0,l.getD (2*k+1) 0)]:=by
 rw[JW hk,OF _ (by rw[length_take];omega)]
theorem TO{l:List Int}{k:Nat}(hk:2*k+1<l.length):∃r,eK l=eK (l.take (2*k))++(l.getD (2*k) 0,l.getD (2*k+1) 0)::r:=by
 induction k generalizing l with
 |zero =>
  match l,hk with
  |a::b::r,_=>exact⟨eK r,rfl⟩
 |succ k ih =>
  match l,hk with
  |a::b::r,hk =>
   obtain⟨t,ht⟩:=ih (l:=r) (by simp at hk;omega);refine⟨t,?_⟩;rw[show 2*(k+1)=2*k+1+1 by omega];simp only[take_succ_cons,eK,cons_append];rw[ht];rfl
theorem TX{l:List Int}(h:ky (eK l)){k:Nat}(hk:2*k+1<l.length):∀c∈eK (l.take (2*k)),c.1<l.getD (2*k) 0:=by
 obtain⟨r,hr⟩:=TO hk;unfold ky at h;rw[hr,pairwise_append]at h;intro c hc;exact h.2.2 c hc _ (mem_cons_self ..)
theorem OH{l:List Int}(h:zM l=true):∀c∈eK l,(0<=c.1/\c.1<=1048576)/\(0<=c.2/\c.2<=1048576):=by
 unfold zM at h;rw[all_eq_true]at h;have h':∀x∈l,0<=x/\x<=1048576:=λx hx=>by simpa using h x hx
 clear h;induction l using eK.induct with
 |case1 a b r ih =>
  intro c hc;rcases mem_cons.1 hc with rfl|hc
  .exact⟨h' a (by simp),h' b (by simp)⟩
  .exact ih (λx hx=>h' x (by simp[hx])) c hc
 |case2 l hn=>intro c hc;rw[eK]at hc;cases hc;exact λa b r e=>hn a b r e
def jj(nv:Nat)(al:List bt)(st ls:List Int):Nat :=
 if 16<ls.length then 1 else if st.length≠nv\/zM st=false\/mS ls=false then 5
 else if Je al st (cq (eK ls)) (fF (eK ls)) (fU (eK ls))=true then 0 else 6
structure Qu(al:List bt):Prop where
 tm:ij al
 le:al.length<=1000
 bd:∀a∈al,a.lk<=2/\a.rk<=2/\a.li<=100/\a.ri<=100
def rm(w:World)(Q:Nat)(ws:List ByteArray)(s:PS)(al:List bt)(vv pv nv:Value)(st ls:List Int)(e:Ending)(w':World):Prop :=
 Below w.heap.size w w'/\((jj s.vars.length al st ls≠0/\e=.returned (.tuple #[.pointer none,.int .i64 (jj s.vars.length al st ls:Nat)])) \/
  (jj s.vars.length al st ls=0/\∃R sv cv,e=.returned (.tuple #[.pointer (some ⟨R,0,none⟩),.int .i64 0])/\Mc w' R Q ws s al (pi s.nodes ⟨0,0,st,eK ls⟩ 0) vv pv nv sv cv/\∀k∈cZ R sv cv,w.heap.size<=k))
section
variable {w:World} {Q:Nat} {ws:List ByteArray} {s:PS} {al:List bt} {vv pv nv sv0 lv:Value} {st ls:List Int}
theorem Up(h:Cp w Q ws s al vv pv nv)(aE:nB w sv0 1 st.length (di st))(uR:nB w lv 1 ls.length (di ls))(hE:16<ls.length\/(st.length≠s.vars.length\/zM st=false\/mS ls=false)):
  Calls prog 61 #[.pointer (some ⟨Q,0,none⟩),sv0,lv] w (rm w Q ws s al vv pv nv st ls):=by
 have c1:=h.bk.cell 1 rfl;obtain⟨vo,vcap,q7,Jr,NE⟩:=ah h.vr;rw[q7]at c1;have HA:=ab (sF aE);have HC:=ab (Au uR);obtain⟨so,scap,rfl,SZ,rJ,akf⟩:=aE.sl;obtain⟨lo,lcap,rfl,hln,VO,ajM⟩:=uR.sl;clear h aE uR q7;by_cases P1:16<ls.length
 .have HE:Hid (jj s.vars.length al st ls=1):=ab (by unfold jj;rw[if_pos P1]);clear hE;go_enter func61,ntmps61;go_wp2_with fail
  go_ret2;exact⟨Below.refl _ _,zq0 ⟨by rw[uh HE];decide,by rw[uh HE];rfl⟩⟩
 .have fR:=hE.resolve_left P1;have HE:Hid (jj s.vars.length al st ls=5):=ab (by unfold jj;rw[if_neg P1,if_pos fR]);have hd:decide ((16:Int)<(ls.length:Int))=false:=by simp;omega
  by_cases hv:st.length=s.vars.length
  .have aM:((st.length:Int) != (s.vars.length:Int))=false:=(by rw[hv];simp);cases eS:zM st with
   |false =>
    rw[eS]at HA;have HV:=ab hv;clear hE fR hv eS;go_enter func61,ntmps61;go_wp2_with (go_at_call 93;refine(uh HA).mono ?_;rintro e w' ⟨rfl,rfl⟩)
    go_ret2;exact⟨Below.refl _ _,zq0 ⟨by rw[uh HE];decide,by rw[uh HE];rfl⟩⟩
   |true =>
    have yx:mS ls=false:=by
     rcases fR with h|h|h
     .exact absurd hv h
     .rw[eS]at h;cases h
     .exact h
    rw[eS]at HA;rw[yx]at HC;have HV:=ab hv;clear hE fR hv eS yx;go_enter func61,ntmps61;go_wp2_with (first|(go_at_call 93;refine(uh HA).mono ?_;rintro e w' ⟨rfl,rfl⟩)|(go_at_call 94;refine(uh HC).mono ?_;rintro e w'' ⟨rfl,rfl⟩))
    go_ret2;exact⟨Below.refl _ _,zq0 ⟨by rw[uh HE];decide,by rw[uh HE];rfl⟩⟩
  .have aM:((st.length:Int) != (s.vars.length:Int))=true:=(by simp[bne];omega);clear hE fR;go_enter func61,ntmps61;go_wp2_with fail
   go_ret2;exact⟨Below.refl _ _,zq0 ⟨by rw[uh HE];decide,by rw[uh HE];rfl⟩⟩
end
def UA(n:Nd):Bool:=decide (n.op=7\/n.op=8\/n.op=9)
def Oi(n:Nd):Bool:=decide (n.op=4)
theorem qi{α:Type}{l:List α}{P:α->Bool}{i:Nat}(h:i<l.length):(l.take (i+1)).countP P=(l.take i).countP P+if P l[i]=true then 1 else 0:=by
 rw[take_succ_eq_append_getElem h,countP_append];congr 1;by_cases e:P l[i]=true <;> simp[e]
theorem Ua{nds:List Nd}{nv:Nat}{al:List bt}{i:Nat}(hi:i<nds.length)(h:lJ nds i=true):Ks nds nv al=false:=by
 unfold Ks;have:(range nds.length).any (lJ nds)=true:=by rw[any_eq_true];exact⟨i,mem_range.2 hi,h⟩
 rw[this];rfl
theorem Ub{nds:List Nd}{nv:Nat}{al:List bt}{a:bt}(ha:a∈al)(h:a.k=4):Ks nds nv al=false:=by
 unfold Ks;have:al.any (λa=>decide (a.k=4))=true:=by rw[any_eq_true];exact⟨a,ha,by simpa using h⟩
 rw[this];simp
theorem Z1{nds:List Nd}{nv:Nat}{al:List bt}(h1:∀i,i<nds.length->lJ nds i=false)(h2:∀a∈al,a.k≠4):Ks nds nv al=(decide (nds.countP UA<=5)&&decide (nds.countP Oi<=4)&&decide (nv+vA al<=6)&&decide (nv+vA al+nds.countP Oi<=8)):=by
 unfold Ks;have e1:(range nds.length).any (lJ nds)=false:=by rw[any_eq_false];intro i hi;rw[h1 i (mem_range.1 hi)];decide
 have e2:al.any (λa=>decide (a.k=4))=false:=by rw[any_eq_false];intro a ha;simpa using h2 a ha
 rw[e1,e2];rfl
section
variable {w:World} {Q:Nat} {ws:List ByteArray} {ps:PS} {al:List bt} {vv pv nv:Value}
theorem Cp.nd(h:Cp w Q ws ps al vv pv nv){i:Nat}(hi:i<ps.nodes.length):∃g cap,nv=.slice (some ⟨g,0,none⟩) ps.nodes.length cap/\w.cell? ⟨g,i*6,none⟩=some (.int .i64 (ps.nodes[i].op:Int))/\w.cell? ⟨g,i*6+1,none⟩=some (.int .i64 (ps.nodes[i].v:Int))/\w.cell? ⟨g,i*6+2,none⟩=some (.int .i64 (ps.nodes[i].ak:Int))/\w.cell? ⟨g,i*6+3,none⟩=some (.int .i64 (ps.nodes[i].ai:Int))/\w.cell? ⟨g,i*6+4,none⟩=some (.int .i64 (ps.nodes[i].nx:Int))/\w.cell? ⟨g,i*6+5,none⟩=some (.int .i64 (ps.nodes[i].ot:Int)):=by
 obtain⟨g,cap,hv,-,-,-⟩:=aS h.nr (by omega);subst hv;have key:∀j,j<6->w.cell? ⟨g,i*6+j,none⟩=ps.nodes[i].cells[j]?:=λj hj=>by rw[h.nr.cellAt _ (by omega),Od hi j hj]
 exact⟨g,cap,rfl,key 0 (by omega),key 1 (by omega),key 2 (by omega),key 3 (by omega),key 4 (by omega),key 5 (by omega)⟩
theorem yP(h:Cp w Q ws ps al vv pv nv)(hA:Qu al)(gz:ps.nodes.length<=100000)(mu:ps.vars.length<=1000):
  Calls prog 170 #[.pointer (some ⟨Q,0,none⟩)] w λe w'=>e=.returned (.bool (Ks ps.nodes ps.vars.length al))/\Below w.heap.size w w':=by
 obtain⟨R,hR⟩:∃R,R=Ks ps.nodes ps.vars.length al:=⟨_,rfl⟩;rw[<-hR];have CR:∀a∈al,a.li<=100/\a.ri<=100:=λa ha=>(hA.bd a ha).2.2;have cP:=hA.le;have HH:Hid (∀W,Below w.heap.size w W->Calls prog 196 #[pv] W λe w'=>e=.returned (.int .i64 (vA al:Nat))/\Below W.heap.size W w'):=ab (λW hW=>D5 (h.below hW).pr hA.le CR);have hhl:=M9 al CR;obtain⟨na,nc,zY,-,-⟩:=ah h.nr;obtain⟨va,vc,q7,-,-⟩:=ah h.vr;obtain⟨ao,cap,eS,iw,fs,aq⟩:=lI h.pr;subst zY;subst q7;subst eS;have c1:=h.bk.cell 1 rfl;have c2:=h.bk.cell 2 rfl;have c3:=h.bk.cell 3 rfl;have Ye:=h.bk.lt;have H:=ab h;have HR:=ab hR;have HC:=ab aq;obtain⟨nds,Bn⟩:∃nds,nds=ps.nodes:=⟨_,rfl⟩;have HN:Hid (∀i,(hi:i<nds.length)->∃g cap,Value.slice na ps.nodes.length nc=.slice (some ⟨g,0,none⟩) nds.length cap/\w.cell? ⟨g,i*6,none⟩=some (.int .i64 (nds[i].op:Int))/\w.cell? ⟨g,i*6+4,none⟩=some (.int .i64 (nds[i].nx:Int))):=ab (by
  subst Bn;intro i hi;obtain⟨g,cap,e,x0,-,-,-,x4,-⟩:=h.nd hi;exact⟨g,cap,e,x0,x4⟩)
 rw[<-Bn]at c3 gz HN HR;clear h hA hR aq CR Bn;go_enter func170,ntmps170;go_wp2_with fail
 go_loopg [3,4,5] nds.length (λgn tv nwv iv wx=>∃(k:Nat),k+gn=nds.length/\iv=.int .i64 k/\tv=.int .i64 ((nds.take k).countP UA:Nat)/\nwv=.int .i64 ((nds.take k).countP Oi:Nat)/\Hid (wx=w/\∀i,i<k->lJ nds i=false))
 case atStart=>exact⟨0,by omega,rfl,rfl,rfl,ab ⟨rfl,λi hi=>by omega⟩⟩
 case round =>
  obtain⟨k,fC,rfl,rfl,rfl,hI⟩:=hrel;obtain⟨G1,wK⟩:∃G1,G1=gk:=⟨_,rfl⟩;obtain⟨S7,hbj⟩:=uh hI;rw[S7];clear S7;have HBJ:=ab hbj;have vH:(nds.take k).countP UA<=k:=zq3 countP_le_length (by rw[length_take];omega);have jg:(nds.take k).countP Oi<=k:=zq3 countP_le_length (by rw[length_take];omega);clear hI hbj;by_cases ar:k<nds.length
  .have hd:decide ((k:Int)<(nds.length:Int))=true:=(by simp;omega);obtain⟨g,cap2,cM,x0,x4⟩:=uh HN k ar;simp only[Value.slice.injEq]at cM;obtain⟨rfl,-,rfl⟩:=cM;have hts:=qi (P:=UA) ar;have hnw:=qi (P:=Oi) ar;have fB:lJ nds k=(decide (nds[k].op=10)&&decide (nds[k].nx<k)):=(by unfold lJ;rw[bp ar]);obtain⟨nd,cH⟩:∃nd,nd=nds[k]:=⟨_,rfl⟩;rw[<-cH]at x0 x4 hts hnw fB;obtain⟨T,hT⟩:∃T,T=(nds.take k).countP UA:=⟨_,rfl⟩;obtain⟨N,hN⟩:∃N,N=(nds.take k).countP Oi:=⟨_,rfl⟩;rw[<-hT]at hts vH ⊢;rw[<-hN]at hnw jg ⊢;have nz:Hid (lJ nds k=false->∀i,i<k+1->lJ nds i=false):=ab (λe i hi=>by
    by_cases h1:i=k
    .rw[h1];exact e
    .exact uh HBJ i (by omega))
   have k1:(0:Int)<=(k:Int):=(by omega);have k2:(k:Int)<(nds.length:Int):=(by omega);have WZ:=ab hts;have UZ:=ab hnw;have Cw:=ab fB;clear hts hnw fB cH hT hN;have htsB:UA nd=decide (nd.op=7\/nd.op=8\/nd.op=9):=rfl;have hnwB:Oi nd=decide (nd.op=4):=rfl;by_cases ht:nd.op=7\/nd.op=8\/nd.op=9
   .have mz:Hid ((nds.take (k+1)).countP UA=T+1):=ab (by rw[uh WZ,htsB,if_pos (by simpa using ht)]);have vX:Hid ((nds.take (k+1)).countP Oi=N):=ab (by rw[uh UZ,hnwB,if_neg (by simp;omega),Nat.add_zero]);have bu:Hid (∀i,i<k+1->lJ nds i=false):=ab (uh nz (by rw[uh Cw];simp;omega));clear htsB hnwB WZ UZ Cw;rcases ht with ht|ht|ht
    .rw[ht]at x0;go_wp2_with fail
     go_roundg (G1-1)
     case rel=>exact⟨k+1,by omega,by go_num,by rw[uh mz];go_num,by rw[uh vX],ab ⟨rfl,uh bu⟩⟩
     case measure=>omega
    .rw[ht]at x0;go_wp2_with fail
     go_roundg (G1-1)
     case rel=>exact⟨k+1,by omega,by go_num,by rw[uh mz];go_num,by rw[uh vX],ab ⟨rfl,uh bu⟩⟩
     case measure=>omega
    .rw[ht]at x0;go_wp2_with fail
     go_roundg (G1-1)
     case rel=>exact⟨k+1,by omega,by go_num,by rw[uh mz];go_num,by rw[uh vX],ab ⟨rfl,uh bu⟩⟩
     case measure=>omega
   .have mz:Hid ((nds.take (k+1)).countP UA=T):=ab (by rw[uh WZ,htsB,if_neg (by simpa using ht),Nat.add_zero]);have t7:((nd.op:Int)==(7:Int))=false:=(by simp;omega);have t8:((nd.op:Int)==(8:Int))=false:=(by simp;omega);have t9:((nd.op:Int)==(9:Int))=false:=(by simp;omega);by_cases h4:nd.op=4
    .have vX:Hid ((nds.take (k+1)).countP Oi=N+1):=ab (by rw[uh UZ,hnwB,if_pos (by simpa using h4)]);have bu:Hid (∀i,i<k+1->lJ nds i=false):=ab (uh nz (by rw[uh Cw];simp;omega));rw[h4]at x0;clear htsB hnwB WZ UZ Cw t7 t8 t9;go_wp2_with fail
     go_roundg (G1-1)
     case rel=>exact⟨k+1,by omega,by go_num,by rw[uh mz],by rw[uh vX];go_num,ab ⟨rfl,uh bu⟩⟩
     case measure=>omega
    .have vX:Hid ((nds.take (k+1)).countP Oi=N):=ab (by rw[uh UZ,hnwB,if_neg (by simpa using h4),Nat.add_zero]);have t4:((nd.op:Int)==(4:Int))=false:=(by simp;omega);by_cases Ge:nd.op=10
     .rw[Ge]at x0;by_cases hb:nd.nx<k
      .have d1:decide ((nd.nx:Int)<(k:Int))=true:=(by simp;omega);have HE:Hid (R=false):=ab (by rw[uh HR];exact Ua ar (by rw[uh Cw];simp[Ge,hb]));clear htsB hnwB WZ UZ Cw t7 t8 t9 t4;go_wp2_with fail
       go_ret;exact⟨aw (uh HE).symm,Below.refl _ _⟩
      .have d1:decide ((nd.nx:Int)<(k:Int))=false:=(by simp;omega);have bu:Hid (∀i,i<k+1->lJ nds i=false):=ab (uh nz (by rw[uh Cw];simp[hb]));clear htsB hnwB WZ UZ Cw t7 t8 t9 t4;go_wp2_with fail
       go_roundg (G1-1)
       case rel=>exact⟨k+1,by omega,by go_num,by rw[uh mz],by rw[uh vX],ab ⟨rfl,uh bu⟩⟩
       case measure=>omega
     .have t10:((nd.op:Int)==(10:Int))=false:=(by simp;omega);have bu:Hid (∀i,i<k+1->lJ nds i=false):=ab (uh nz (by rw[uh Cw];simp[Ge]));clear htsB hnwB WZ UZ Cw;go_wp2_with fail
      go_roundg (G1-1)
      case rel=>exact⟨k+1,by omega,by go_num,by rw[uh mz],by rw[uh vX],ab ⟨rfl,uh bu⟩⟩
      case measure=>omega
  .have hd:decide ((k:Int)<(nds.length:Int))=false:=(by simp;omega);have gy:nds.take k=nds:=take_of_length_le (by omega);rw[gy]at vH jg ⊢;have bu:Hid (∀i,i<nds.length->lJ nds i=false):=ab (λi hi=>uh HBJ i (by omega));obtain⟨T,hT⟩:∃T,T=nds.countP UA:=⟨_,rfl⟩;obtain⟨N,hN⟩:∃N,N=nds.countP Oi:=⟨_,rfl⟩;rw[<-hT]at vH ⊢;rw[<-hN]at jg ⊢;have HTN:=ab (zq2 hT hN);clear gy hT hN HBJ HN;go_wp2_with fail
   go_loopg [58] al.length (λgn iv wx=>∃(j:Nat),j+gn=al.length/\iv=.int .i64 j/\Hid (Below w.heap.size w wx/\∀i,i<j->∀a,al[i]?=some a->a.k≠4))
   case atStart=>exact⟨0,by omega,rfl,ab ⟨Below.refl _ _,λi hi=>by omega⟩⟩
   case round =>
    obtain⟨j,wU,rfl,hJ⟩:=hrel;obtain⟨G2,AY⟩:∃G2,G2=gk:=⟨_,rfl⟩;by_cases bf:j<al.length
    .have gx:decide ((j:Int)<(al.length:Int))=true:=(by simp;omega);obtain⟨g,rfl,gE,hc⟩:=uh HC (λe=>by rw[e]at bf;simp at bf);obtain⟨x0,x1,x2,x3,x4⟩:=hc j bf;have x0:=((uh hJ).1.cell gE).trans x0;have x1:=((uh hJ).1.cell gE).trans x1;have x2:=((uh hJ).1.cell gE).trans x2;have x3:=((uh hJ).1.cell gE).trans x3;have x4:=((uh hJ).1.cell gE).trans x4;have bZ:al[j]?=some al[j]:=getElem?_eq_getElem bf;obtain⟨a,ha⟩:∃a,a=al[j]:=⟨_,rfl⟩;rw[<-ha]at x0 x1 x2 x3 x4 bZ;obtain⟨ak,alk,ali,ark,ari⟩:=a;simp only at x0 x1 x2 x3 x4;have zG:=ab bZ;have cY:Hid (Below w.heap.size w (wr.alloc (.cells #[Value.int .i64 ak,.int .i64 alk,.int .i64 ali,.int .i64 ark,.int .i64 ari] 239))):=ab ((uh hJ).1.trans ((af wr _).mono (uh hJ).1.size));have k1:(0:Int)<=(j:Int):=(by omega);have k2:(j:Int)<(al.length:Int):=(by omega);clear hc ha bZ;by_cases h4:ak=4
     .have d4:((ak:Int)==(4:Int))=true:=(by simp[h4]);have HE:Hid (R=false):=ab (by rw[uh HR];exact Ub (mem_of_getElem? (uh zG)) h4);clear h4;go_wp2_with fail
      go_ret;exact⟨aw (uh HE).symm,uh cY⟩
     .have d4:((ak:Int)==(4:Int))=false:=(by simp;omega);have uX:=ab h4;clear h4;go_wp2_with fail
      go_roundg (G2-1)
      case rel=>exact⟨j+1,by omega,by go_num,ab ⟨uh cY,λi hi y hy=>by
       by_cases e':i=j
       .rw[e',uh zG]at hy;injection hy with hy;rw[<-hy];exact uh uX
       .exact(uh hJ).2 i (by omega) y hy⟩⟩
      case measure=>omega
    .have gx:decide ((j:Int)<(al.length:Int))=false:=(by simp;omega);obtain⟨hb,wW⟩:=uh hJ;have d2:=(hb.cell Ye).trans c2;have HH2:=ab (uh HH wr hb);obtain⟨V,hV⟩:∃V,V=ps.vars.length:=⟨_,rfl⟩;have aqN:V<=1000:=(by rw[hV];exact mu);rw[<-hV]at HR ⊢;obtain⟨Hn,hHn⟩:∃Hn,Hn=vA al:=⟨_,rfl⟩;rw[<-hHn]at HH2 hhl;have hRe:R=(decide (T<=5)&&decide (N<=4)&&decide (V+Hn<=6)&&decide (V+Hn+N<=8)):=by
      rw[uh HR,Z1 (uh bu) (λa ha=>?_),<-(uh HTN).1,<-(uh HTN).2,<-hHn];obtain⟨i,hi⟩:=mem_iff_getElem?.1 ha;exact wW i (by have:=(List.getElem?_eq_some_iff.1 hi).1;omega) a hi
     obtain⟨M,hM⟩:∃M,M=V+Hn:=⟨_,rfl⟩;rw[<-hM]at hRe;have SV:IntKind.i64.wrap ((V:Int)+(Hn:Int))=(M:Int):=(by rw[IntKind.wrap_i64];omega);have CE:=ab hRe;have HB:=ab hb;have MA:M<=2000:=(by omega);obtain⟨P,hP⟩:∃P,P=M+N:=⟨_,rfl⟩;have hq2:IntKind.i64.wrap ((M:Int)+(N:Int))=(P:Int):=(by rw[IntKind.wrap_i64];omega);rw[<-hP]at CE;clear hb wW hV hHn hRe hM hP hJ HR bu HTN HH HC;go_wp2_with fail
     refine(uh HH2).mono ?_;rintro e w5 ⟨rfl,b6⟩;have gH:=ab ((uh HB).trans (b6.mono (uh HB).size));clear b6 HB HH2;by_cases p1:T<=5
     .have e1:decide (T<=5)=true:=(by simpa using p1);have e1':decide ((T:Int)<=(5:Int))=true:=(by simp;omega);by_cases p2:N<=4
      .have e2:decide (N<=4)=true:=(by simpa using p2);have e2':decide ((N:Int)<=(4:Int))=true:=(by simp;omega);by_cases p3:M<=6
       .have e3:decide (M<=6)=true:=(by simpa using p3);have e3':decide ((M:Int)<=(6:Int))=true:=(by simp;omega);by_cases p4:P<=8
        .have e4:decide (P<=8)=true:=(by simpa using p4);have e4':decide ((P:Int)<=(8:Int))=true:=(by simp;omega);have HE:Hid (R=true):=ab (by rw[uh CE,e1,e2,e3,e4];rfl);clear p1 p2 p3 p4 e1 e2 e3 e4;go_wp2_with fail
         go_ret;exact⟨aw (uh HE).symm,uh gH⟩
        .have e4:decide (P<=8)=false:=(by simpa using p4);have e4':decide ((P:Int)<=(8:Int))=false:=(by simp;omega);have HE:Hid (R=false):=ab (by rw[uh CE,e1,e2,e3,e4];rfl);clear p1 p2 p3 p4 e1 e2 e3 e4;go_wp2_with fail
         go_ret;exact⟨aw (uh HE).symm,uh gH⟩
       .have e3:decide (M<=6)=false:=(by simpa using p3);have e3':decide ((M:Int)<=(6:Int))=false:=(by simp;omega);have HE:Hid (R=false):=ab (by rw[uh CE,e1,e2,e3];rfl);clear p1 p2 p3 e1 e2 e3;go_wp2_with fail
        go_ret;exact⟨aw (uh HE).symm,uh gH⟩
      .have e2:decide (N<=4)=false:=(by simpa using p2);have e2':decide ((N:Int)<=(4:Int))=false:=(by simp;omega);have HE:Hid (R=false):=ab (by rw[uh CE,e1,e2];rfl);clear p1 p2 e1 e2;go_wp2_with fail
       go_ret;exact⟨aw (uh HE).symm,uh gH⟩
     .have e1:decide (T<=5)=false:=(by simpa using p1);have e1':decide ((T:Int)<=(5:Int))=false:=(by simp;omega);have HE:Hid (R=false):=ab (by rw[uh CE,e1];rfl);clear p1 e1;go_wp2_with fail
      go_ret;exact⟨aw (uh HE).symm,uh gH⟩
end
theorem infoBl:(prog.info? 4).map (λi=>(i.zero,i.size,i.bytes))=some (some (.bool false),1,1):=by kernel_rfl
theorem infoEs:(prog.info? 255).map (λi=>(i.zero,i.size,i.bytes))=some (some (.slice none 0 0),1,24):=by kernel_rfl
theorem infoBs:(prog.info? 200).map (λi=>(i.zero,i.size,i.bytes))=some (some (.slice none 0 0),1,24):=by kernel_rfl
theorem GY{S:Nat}{hv kv wv:Value}{KV WV:List Value}{n:Nat}(v:Value):mK S hv kv wv KV (WV.set n v)=(mK S hv kv wv KV WV).set (4+(KV.length+n)) v.ownBlock:=by
 unfold mK;rw[show 4+(KV.length+n)=(KV.length+n)+1+1+1+1 by omega];simp only[set_cons_succ];rw[set_append_right _ _ (by simp),map_set];simp
structure o6(w W:World)(S:Nat)(c0 hv kv wv:Value)(WV:List Value)(lp:Bool)(hd:List Bool)(bd:Bool)(m i:Nat):Prop where
 bs:Bk W S 229 (nH c0 hv lp kv wv bd 3000 2097152 false)
 hl:hd.length=m
 hr:W.ownsRow 0 4 1 hv m (cK hd)
 kr:W.ownsRow 0 255 1 kv m (replicate m aH)
 wr:W.ownsRow 0 200 1 wv m WV
 we:∀j,j<i->W.ownsRow 0 4 1 (WV.getD j aH) 5 (cK (replicate 5 false))
 ap:Apt (mK S hv kv wv (replicate m aH) WV)
 bl:Below w.heap.size w W
 ge:∀k∈cD S hv kv wv (replicate m aH) WV,w.heap.size<=k
section
variable {w W W':World} {S:Nat} {c0 hv kv wv:Value} {WV:List Value} {lp bd:Bool} {hd:List Bool} {m i:Nat}
theorem o6.wl(h:o6 w W S c0 hv kv wv WV lp hd bd m i):WV.length=m:=by have:=h.wr.1;omega
theorem o6.of_eq(h:o6 w W S c0 hv kv wv WV lp hd bd m i)(him:i<=m)(he:∀k∈cD S hv kv wv (replicate m aH) WV,W'.heap[k]?=W.heap[k]?)(hb:Below w.heap.size w W'):o6 w W' S c0 hv kv wv WV lp hd bd m i:=by
 have hw:=h.wl;exact⟨h.bs.of_eq (he S fj),h.hl,ae h.hr (λk hk=>he k (bI (i:=1) (congrArg some hk))),ae h.kr (λk hk=>he k (bI (i:=2) (congrArg some hk))),ae h.wr (λk hk=>he k (bI (i:=3) (congrArg some hk))),λj hj=>ae (h.we j hj) (λk hk=>he k (bI ((zb (by omega)).trans (congrArg some hk)))),h.ap,hb,h.ge⟩
theorem o6.lt(h:o6 w W S c0 hv kv wv WV lp hd bd m i)(hn:∀j,i<=j->WV.getD j aH=aH):∀k∈cD S hv kv wv (replicate m aH) WV,k<W.heap.size:=by
 intro k hk;obtain⟨p,hp⟩:=aP.1 hk;rcases Ok hp with⟨-,rfl⟩|⟨-,e⟩|⟨-,e⟩|⟨-,e⟩|⟨j,hj,-,e⟩|⟨j,hj,-,e⟩
 .exact h.bs.lt
 .exact(h.hr.lt k e).2
 .exact(h.kr.lt k e).2
 .exact(h.wr.lt k e).2
 .have:(replicate m aH).getD j aH=aH:=by rw[length_replicate]at hj;simp[hj]
  rw[this]at e;cases e
 .by_cases hji:j<i
  .exact((h.we j hji).lt k e).2
  .rw[hn j (by omega)]at e;cases e
theorem o6.below(h:o6 w W S c0 hv kv wv WV lp hd bd m i)(him:i<=m)(hn:∀j,i<=j->WV.getD j aH=aH)(hb:Below W.heap.size W W'):o6 w W' S c0 hv kv wv WV lp hd bd m i:=h.of_eq him (λk hk=>hb.block k (h.lt hn k hk)) (h.bl.trans (hb.mono h.bl.size))
theorem o6.row(h:o6 w W S c0 hv kv wv WV lp hd bd m i)(him:i<m)(hn:∀j,i<=j->WV.getD j aH=aH){o:Obj}(ho:o=.cells (madeCells #[Value.bool false] 5) 4){wB wC:Nat}(By:wv=.slice (some ⟨wB,0,none⟩) m wC):
  o6 w ((W.alloc o).setCell ⟨wB,i,none⟩ (.slice (some ⟨W.heap.size,0,none⟩) 5 5)) S c0 hv kv wv (WV.set i (.slice (some ⟨W.heap.size,0,none⟩) 5 5)) lp hd bd m (i+1)/\∀j,i+1<=j->(WV.set i (.slice (some ⟨W.heap.size,0,none⟩) 5 5)).getD j aH=aH:=by
 have hw:=h.wl;have aO:=af W o;have h1:=h.below (Nat.le_of_lt him) hn aO;have ar:=h.lt hn;have jO:W.heap.size<(W.alloc o).heap.size:=by simp
 have hwB:(mK S hv kv wv (replicate m aH) WV)[3]?=some (some wB):=by rw[By];rfl
 have hwBl:=ar wB (bI hwB);have hwBg:=h.ge wB (bI hwB);obtain⟨v,V5⟩:∃v,v=Value.slice (some ⟨W.heap.size,0,none⟩) 5 5:=⟨_,rfl⟩;have S4:v.ownBlock=some W.heap.size:=by rw[V5];rfl
 rw[<-V5];have aM:∀p k,p≠3->(mK S hv kv wv (replicate m aH) WV)[p]?=some (some k)->((W.alloc o).setCell ⟨wB,i,none⟩ v).heap[k]?=(W.alloc o).heap[k]?:=λp k hp hk=>heap_setCell _ _ _ _ (λe=>hp (h.ap p 3 k hk (by rw[hwB,show k=wB from e])));have cf:∀j,j≠i->(WV.set i v).getD j aH=WV.getD j aH:=λj hj=>by rw[getD_eq_getElem?_getD,getElem?_set_ne (λe=>hj e.symm),<-getD_eq_getElem?_getD]
 have ts:∀k,W.heap.size=k->∀p,(mK S hv kv wv (replicate m aH) WV)[p]?≠some (some k):=λk hk p hp=>by have:=ar k (bI hp);omega
 refine⟨⟨h1.bs.of_eq (aM 0 S (by omega) rfl),h.hl,ae h1.hr (λk hk=>aM 1 k (by omega) (congrArg some hk)),ae h1.kr (λk hk=>aM 2 k (by omega) (congrArg some hk)),?_,λj hj=>?_,?_,h1.bl.setCell (p:=⟨wB,i,none⟩) hwBg _,λk hk=>?_⟩,λj hj=>by rw[cf j (by omega)];exact hn j (by omega)⟩
 .have:=h1.wr;rw[By]at this ⊢;exact(this.stored i v).1
 .by_cases hji:j=i
  .subst hji;have e1:(WV.set j v).getD j aH=v:=(by rw[getD_eq_getElem?_getD,getElem?_set_self (by omega)];rfl);rw[e1,V5];have h2:=ownsRow_lit (base:=0) (e:=4) (size:=1) W (madeCells #[Value.bool false] 5) 5 (zq5 _) (by simp[maxLen]) (by simp[madeCells]);rw[toList_madeCells_one,<-ho]at h2;exact a8 h2 (p:=⟨wB,j,none⟩) (by show some W.heap.size≠some wB;intro e;injection e with e;omega) _
  .rw[cf j hji];refine ae (h1.we j (by omega)) (λk hk=>aM (4+((replicate m aH).length+j)) k (by omega) ((zb (by omega)).trans (congrArg some hk)))
 .rw[GY];refine h.ap.set _ (λk hk=>zq1 (ts k ?_));rw[S4]at hk;injection hk
 .obtain⟨p,hp⟩:=aP.1 hk;rw[GY,getElem?_set]at hp;split at hp
  .split at hp
   .simp only[Option.some.injEq]at hp;rw[S4]at hp;injection hp with hp;rw[<-hp];exact h.bl.size
   .simp at hp
  .exact h.ge k (bI hp)
theorem o6.head(h:o6 w W S c0 hv kv wv WV lp hd bd m i)(him:i<=m){n hB hC:Nat}(hhv:hv=.slice (some ⟨hB,0,none⟩) m hC):o6 w (W.setCell ⟨hB,n,none⟩ (.bool true)) S c0 hv kv wv WV lp (hd.set n true) bd m i:=by
 have hw:=h.wl;have hhB:(mK S hv kv wv (replicate m aH) WV)[1]?=some (some hB):=by rw[hhv];rfl
 have aM:∀p k,p≠1->(mK S hv kv wv (replicate m aH) WV)[p]?=some (some k)->(W.setCell ⟨hB,n,none⟩ (.bool true)).heap[k]?=W.heap[k]?:=λp k hp hk=>heap_setCell _ _ _ _ (λe=>hp (h.ap p 1 k hk (by rw[hhB,show k=hB from e])));refine⟨h.bs.of_eq (aM 0 S (by omega) rfl),by rw[length_set];exact h.hl,?_,ae h.kr (λk hk=>aM 2 k (by omega) (congrArg some hk)),ae h.wr (λk hk=>aM 3 k (by omega) (congrArg some hk)),λj hj=>ae (h.we j hj) (λk hk=>aM _ k (by omega) ((zb (by omega)).trans (congrArg some hk))),h.ap,h.bl.setCell (p:=⟨hB,n,none⟩) (h.ge hB (bI hhB)) _,h.ge⟩;have:=h.hr;rw[hhv]at this ⊢;have h2:=(this.stored n (.bool true)).1;have e:(cK hd).set n (.bool true)=cK (hd.set n true):=by unfold cK;rw[map_set]
 rw[e]at h2;exact h2
theorem o6.loop(h:o6 w W S c0 hv kv wv WV lp hd bd m i)(him:i<=m):o6 w (W.setCell ⟨S,2,none⟩ (.bool true)) S c0 hv kv wv WV true hd bd m i:=by
 have hw:=h.wl;have aM:∀p k,p≠0->(mK S hv kv wv (replicate m aH) WV)[p]?=some (some k)->(W.setCell ⟨S,2,none⟩ (.bool true)).heap[k]?=W.heap[k]?:=λp k hp hk=>heap_setCell _ _ _ _ (λe=>hp (h.ap p 0 k hk (by rw[show k=S from e];rfl)));exact⟨h.bs.set 2 (.bool true),h.hl,ae h.hr (λk hk=>aM 1 k (by omega) (congrArg some hk)),ae h.kr (λk hk=>aM 2 k (by omega) (congrArg some hk)),ae h.wr (λk hk=>aM 3 k (by omega) (congrArg some hk)),λj hj=>ae (h.we j hj) (λk hk=>aM _ k (by omega) ((zb (by omega)).trans (congrArg some hk))),h.ap,h.bl.setCell (p:=⟨S,2,none⟩) (h.ge S fj) _,h.ge⟩
end
def I4(nds:List Nd)(k:Nat):List Bool:=(range k).foldl (λh i=>if lJ nds i=true then h.set (nds.getD i bj).nx true else h) (replicate nds.length false)
def N0(nds:List Nd)(k:Nat):Bool:=(range k).any (lJ nds)
theorem MV(nds:List Nd)(k:Nat):I4 nds (k+1)=if lJ nds k=true then (I4 nds k).set (nds.getD k bj).nx true else I4 nds k:=by
 unfold I4;rw[range_succ,foldl_append];rfl
theorem N2(nds:List Nd)(k:Nat):N0 nds (k+1)=(N0 nds k||lJ nds k):=by
 unfold N0;rw[range_succ,any_append];simp
def Wp(w:World)(c:Cd)(c0:Value)(nds:List Nd)(S:Nat)(w':World):Prop :=
 ∃hv kv wv WV,Sh w' S c c0 hv kv wv (replicate nds.length aH) WV (replicate nds.length []) (l5 nds)/\Below w.heap.size w w'/\∀k∈cD S hv kv wv (replicate nds.length aH) WV,w.heap.size<=k
theorem o6.sh{w W:World}{S:Nat}{c0 hv kv wv:Value}{WV:List Value}{nds:List Nd}{nv:Nat}{al:List bt}(h:o6 w W S c0 hv kv wv WV (N0 nds nds.length) (I4 nds nds.length) (!Ks nds nv al) nds.length nds.length):Sh W S (Az nds nv al) c0 hv kv wv (replicate nds.length aH) WV (replicate nds.length []) (l5 nds):=by
 have mI:∀{α:Type} (a:α),(replicate nds.length a).length=nds.length:=λa=>length_replicate;have YH:∀{α:Type} (a d:α) (i:Nat),i<nds.length->(replicate nds.length a).getD i d=a:=λa d i hi=>by simp[hi]
 refine⟨h.bs,?_,?_,λi hi=>?_,?_,λi hi=>?_,?_,?_,?_,?_,λl hl e he=>?_,h.ap,λk hk=>?_⟩
 .show W.ownsRow 0 _ 1 hv (hdL nds).length (cK (hdL nds));have e:(hdL nds).length=nds.length:=h.hl;rw[e];exact h.hr
 .rw[mI];exact h.kr
 .rw[mI]at hi;rw[YH _ _ i hi,YH _ _ i hi];exact⟨rfl,.inl ⟨rfl,rfl⟩⟩
 .rw[mI];exact h.wr
 .rw[mI]at hi;show W.ownsRow 0 _ 1 _ 5 (cK ((replicate nds.length (replicate 5 false)).getD i []));rw[YH _ _ i hi];exact h.we i hi
 .show(replicate nds.length (replicate 5 false)).length=_;rw[mI,mI]
 .rw[mI];exact h.hl
 .rw[mI];rfl
 .show replicate nds.length []=_;rw[map_replicate];rfl
 .rw[eq_of_mem_replicate hl]at he;simp at he
 .obtain⟨l,hl,e,he,-⟩:=bi.1 hk;rw[eq_of_mem_replicate hl]at he;simp at he
section
variable {w:World} {Q:Nat} {ws:List ByteArray} {ps:PS} {al:List bt} {vv pv nv:Value}
theorem Lb(h:Cp w Q ws ps al vv pv nv)(hA:Qu al)(gz:ps.nodes.length<=100000)(mu:ps.vars.length<=1000):
  Calls prog 139 #[.pointer (some ⟨Q,0,none⟩)] w λe w'=>∃S,e=.returned (.pointer (some ⟨S,0,none⟩))/\Wp w (Az ps.nodes ps.vars.length al) (.pointer (some ⟨Q,0,none⟩)) ps.nodes S w':=by
 have HSI:=ab (yP h hA gz mu);obtain⟨na,nc,zY,-,-⟩:=ah h.nr;subst zY;have c3:=h.bk.cell 3 rfl;have H:=ab h;obtain⟨nds,Bn⟩:∃nds,nds=ps.nodes:=⟨_,rfl⟩;obtain⟨sb,zZ⟩:∃sb,sb=Ks ps.nodes ps.vars.length al:=⟨_,rfl⟩;rw[<-zZ]at HSI;have HSB:=ab zZ;obtain⟨dQ,cW⟩:∃dQ:Nat->World->Prop,dQ=λS w'=>Wp w (Az ps.nodes ps.vars.length al) (.pointer (some ⟨Q,0,none⟩)) ps.nodes S w':=⟨_,rfl⟩;have eU:=ab cW;rw[show(fun(e:Ending) (w':World)=>∃S,e=.returned (.pointer (some ⟨S,0,none⟩))/\Wp w (Az ps.nodes ps.vars.length al) (.pointer (some ⟨Q,0,none⟩)) ps.nodes S w')=(λe w'=>∃S,e=.returned (.pointer (some ⟨S,0,none⟩))/\dQ S w') by rw[cW]];rw[<-Bn]at c3 gz eU HSB;have Ye:=h.bk.lt;have KE:Hid (∀i,(hi:i<nds.length)->∃g cap,Value.slice na ps.nodes.length nc=.slice (some ⟨g,0,none⟩) nds.length cap/\w.cell? ⟨g,i*6,none⟩=some (.int .i64 (nds[i].op:Int))/\w.cell? ⟨g,i*6+1,none⟩=some (.int .i64 (nds[i].v:Int))/\w.cell? ⟨g,i*6+2,none⟩=some (.int .i64 (nds[i].ak:Int))/\w.cell? ⟨g,i*6+3,none⟩=some (.int .i64 (nds[i].ai:Int))/\w.cell? ⟨g,i*6+4,none⟩=some (.int .i64 (nds[i].nx:Int))/\w.cell? ⟨g,i*6+5,none⟩=some (.int .i64 (nds[i].ot:Int))/\g<w.heap.size):=ab (by
  subst Bn;intro i hi;obtain⟨g,cap,e,x0,x1,x2,x3,x4,x5⟩:=h.nd hi;exact⟨g,cap,e,x0,x1,x2,x3,x4,x5,block_lt_of_cell? w _ x0⟩)
 have jk:=ab (zq2 Bn gz);have aqh:=run_make_row' (P:=prog) 200 4 (.bool false) 1 underlying200 infoBl rfl .i64 .i64 nds.length (by omega) (by omega);have aqi:=run_make_row' (P:=prog) 226 255 (.slice none 0 0) 24 underlying226 infoEs rfl .i64 .i64 nds.length (by omega) (by omega);have aqj:=run_make_row' (P:=prog) 227 200 (.slice none 0 0) 24 underlying227 infoBs rfl .i64 .i64 nds.length (by omega) (by omega);have aqk:∀W:World,(Instr.makeSlice 200 (.int .i64 5) (.int .i64 5)).run prog W=.ok (.slice (some ⟨W.heap.size,0,none⟩) 5 5) (W.alloc (.cells (madeCells #[Value.bool false] 5) 4)):=run_make_row' (P:=prog) 200 4 (.bool false) 1 underlying200 infoBl rfl .i64 .i64 5 (by omega) (by omega);clear h hA mu zZ cW Bn;go_enter func139,ntmps139;go_wp2_with fail
 refine(uh HSI).mono ?_;rintro e w1 ⟨rfl,aO⟩;have cY:=ab aO;clear aO HSI;go_upto_region 3 with fail;obtain⟨W2,d9⟩:∃W2,W2=w1.alloc (.cells #[Value.pointer (some ⟨Q,0,none⟩),.slice none 0 0,.bool false,.slice none 0 0,.slice none 0 0,.bool (!sb),.int .i64 3000,.int .i64 2097152,.bool false] 229):=⟨_,rfl⟩;have ax:Below w.heap.size w W2:=by rw[d9];exact(uh cY).trans ((af w1 _).mono (uh cY).size)
 have IY:Bk W2 w1.heap.size 229 (nH (.pointer (some ⟨Q,0,none⟩)) (.slice none 0 0) false (.slice none 0 0) (.slice none 0 0) (!sb) 3000 2097152 false):=by rw[d9];exact Bk.new w1 _ _
 have Sm:=(uh cY).size;obtain⟨S,hS⟩:∃S,S=w1.heap.size:=⟨_,rfl⟩;rw[<-hS]at IY Sm;have H2:=ab (zq2 IY (zq2 ax Sm));rw[<-d9,<-hS];clear d9 hS ax IY Sm cY;go_cut [] (λwx=>∃hB,Hid (Bk wx S 229 (nH (.pointer (some ⟨Q,0,none⟩)) (.slice (some ⟨hB,0,none⟩) nds.length nds.length) false (.slice none 0 0) (.slice none 0 0) (!sb) 3000 2097152 false)/\wx.ownsRow 0 4 1 (.slice (some ⟨hB,0,none⟩) nds.length nds.length) nds.length (cK (replicate nds.length false))/\S<hB/\Below w.heap.size w wx))
 case first =>
  obtain⟨fB,hb,Sm⟩:=uh H2;have e1:=(fB.alloc (.cells (madeCells #[Value.bool false] nds.length) 4)).cell 1 rfl;have z1:=(fB.alloc (.cells (madeCells #[Value.bool false] nds.length) 4)).frz 1;have P6:=fB.lt;have aF:((W2.alloc (.cells (madeCells #[Value.bool false] nds.length) 4)).setCell ⟨S,1,none⟩ (.slice (some ⟨W2.heap.size,0,none⟩) nds.length nds.length)).ownsRow 0 4 1 (.slice (some ⟨W2.heap.size,0,none⟩) nds.length nds.length) nds.length (cK (replicate nds.length false)):=by
   have h2:=ownsRow_lit (base:=0) (e:=4) (size:=1) W2 (madeCells #[Value.bool false] nds.length) nds.length (zq5 _) (by have:=(uh jk).2;simp[maxLen];omega) (by simp[madeCells]);rw[toList_madeCells_one]at h2;have e:cK (replicate nds.length false)=replicate nds.length (Value.bool false):=(by unfold cK;rw[map_replicate]);rw[e];exact a8 h2 (p:=⟨S,1,none⟩) (by show some W2.heap.size≠some S;intro e;injection e with e;omega) _
  have HN:=ab (zq2 ((fB.alloc (.cells (madeCells #[Value.bool false] nds.length) 4)).set 1 (.slice (some ⟨W2.heap.size,0,none⟩) nds.length nds.length)) (zq2 aF (zq2 P6 ((hb.trans ((af W2 (.cells (madeCells #[Value.bool false] nds.length) 4)).mono hb.size)).setCell (p:=⟨S,1,none⟩) Sm (.slice (some ⟨W2.heap.size,0,none⟩) nds.length nds.length)))));clear fB hb Sm P6 aF;go_wp2_with fail
  go_meet
  exact⟨_,HN⟩
 case rest =>
 obtain⟨hB,hH⟩:=hcut;have Sm:=(uh H2).2.2;clear H2;go_upto_region 4 with fail;go_cut [] (λwx=>∃kB,Hid (Bk wx S 229 (nH (.pointer (some ⟨Q,0,none⟩)) (.slice (some ⟨hB,0,none⟩) nds.length nds.length) false (.slice (some ⟨kB,0,none⟩) nds.length nds.length) (.slice none 0 0) (!sb) 3000 2097152 false)/\wx.ownsRow 0 4 1 (.slice (some ⟨hB,0,none⟩) nds.length nds.length) nds.length (cK (replicate nds.length false))/\wx.ownsRow 0 255 1 (.slice (some ⟨kB,0,none⟩) nds.length nds.length) nds.length (replicate nds.length aH)/\S<hB/\hB<kB/\Below w.heap.size w wx))
 case first =>
  obtain⟨fB,Ek,zZ,hb⟩:=uh hH;obtain⟨W3,Kf⟩:∃W3,W3=wc:=⟨_,rfl⟩;rw[<-Kf]at fB Ek hb ⊢;have e1:=(fB.alloc (.cells (madeCells #[Value.slice none 0 0] nds.length) 255)).cell 3 rfl;have z1:=(fB.alloc (.cells (madeCells #[Value.slice none 0 0] nds.length) 255)).frz 3;have P6:=fB.lt;have Vr:=(Ek.lt hB rfl).2;have aF:((W3.alloc (.cells (madeCells #[Value.slice none 0 0] nds.length) 255)).setCell ⟨S,3,none⟩ (.slice (some ⟨W3.heap.size,0,none⟩) nds.length nds.length)).ownsRow 0 255 1 (.slice (some ⟨W3.heap.size,0,none⟩) nds.length nds.length) nds.length (replicate nds.length aH):=by
   have h2:=ownsRow_lit (base:=0) (e:=255) (size:=1) W3 (madeCells #[Value.slice none 0 0] nds.length) nds.length (zq5 _) (by have:=(uh jk).2;simp[maxLen];omega) (by simp[madeCells]);rw[toList_madeCells_one]at h2;exact a8 h2 (p:=⟨S,3,none⟩) (by show some W3.heap.size≠some S;intro e;injection e with e;omega) _
  have Nw:=a8 (Ek.alloc (.cells (madeCells #[Value.slice none 0 0] nds.length) 255)) (p:=⟨S,3,none⟩) (by show some hB≠some S;intro e;injection e with e;omega) (.slice (some ⟨W3.heap.size,0,none⟩) nds.length nds.length);have HN:=ab (zq2 ((fB.alloc (.cells (madeCells #[Value.slice none 0 0] nds.length) 255)).set 3 (.slice (some ⟨W3.heap.size,0,none⟩) nds.length nds.length)) (zq2 Nw (zq2 aF (zq2 zZ (zq2 Vr ((hb.trans ((af W3 (.cells (madeCells #[Value.slice none 0 0] nds.length) 255)).mono hb.size)).setCell (p:=⟨S,3,none⟩) Sm (.slice (some ⟨W3.heap.size,0,none⟩) nds.length nds.length)))))));clear fB Ek hb P6 aF Nw Kf hH Vr zZ;go_wp2_with fail
  go_meet
  exact⟨_,HN⟩
 case rest =>
 obtain⟨kB,hK⟩:=hcut;clear hH;go_upto_region 5 with fail;go_cut [] (λwx=>∃wB,Hid (Bk wx S 229 (nH (.pointer (some ⟨Q,0,none⟩)) (.slice (some ⟨hB,0,none⟩) nds.length nds.length) false (.slice (some ⟨kB,0,none⟩) nds.length nds.length) (.slice (some ⟨wB,0,none⟩) nds.length nds.length) (!sb) 3000 2097152 false)/\wx.ownsRow 0 4 1 (.slice (some ⟨hB,0,none⟩) nds.length nds.length) nds.length (cK (replicate nds.length false))/\wx.ownsRow 0 255 1 (.slice (some ⟨kB,0,none⟩) nds.length nds.length) nds.length (replicate nds.length aH)/\wx.ownsRow 0 200 1 (.slice (some ⟨wB,0,none⟩) nds.length nds.length) nds.length (replicate nds.length aH)/\S<hB/\hB<kB/\kB<wB/\Below w.heap.size w wx))
 case first =>
  obtain⟨fB,Ek,hrk,zZ,IY,hb⟩:=uh hK;obtain⟨W3,Kf⟩:∃W3,W3=wc:=⟨_,rfl⟩;rw[<-Kf]at fB Ek hrk hb ⊢;have e1:=(fB.alloc (.cells (madeCells #[Value.slice none 0 0] nds.length) 200)).cell 4 rfl;have z1:=(fB.alloc (.cells (madeCells #[Value.slice none 0 0] nds.length) 200)).frz 4;have P6:=fB.lt;have Vr:=(hrk.lt kB rfl).2;have aF:((W3.alloc (.cells (madeCells #[Value.slice none 0 0] nds.length) 200)).setCell ⟨S,4,none⟩ (.slice (some ⟨W3.heap.size,0,none⟩) nds.length nds.length)).ownsRow 0 200 1 (.slice (some ⟨W3.heap.size,0,none⟩) nds.length nds.length) nds.length (replicate nds.length aH):=by
   have h2:=ownsRow_lit (base:=0) (e:=200) (size:=1) W3 (madeCells #[Value.slice none 0 0] nds.length) nds.length (zq5 _) (by have:=(uh jk).2;simp[maxLen];omega) (by simp[madeCells]);rw[toList_madeCells_one]at h2;exact a8 h2 (p:=⟨S,4,none⟩) (by show some W3.heap.size≠some S;intro e;injection e with e;omega) _
  have Nw:=a8 (Ek.alloc (.cells (madeCells #[Value.slice none 0 0] nds.length) 200)) (p:=⟨S,4,none⟩) (by show some hB≠some S;intro e;injection e with e;omega) (.slice (some ⟨W3.heap.size,0,none⟩) nds.length nds.length);have aeG:=a8 (hrk.alloc (.cells (madeCells #[Value.slice none 0 0] nds.length) 200)) (p:=⟨S,4,none⟩) (by show some kB≠some S;intro e;injection e with e;omega) (.slice (some ⟨W3.heap.size,0,none⟩) nds.length nds.length);have HN:=ab (zq2 ((fB.alloc (.cells (madeCells #[Value.slice none 0 0] nds.length) 200)).set 4 (.slice (some ⟨W3.heap.size,0,none⟩) nds.length nds.length)) (zq2 Nw (zq2 aeG (zq2 aF (zq2 zZ (zq2 IY (zq2 Vr ((hb.trans ((af W3 (.cells (madeCells #[Value.slice none 0 0] nds.length) 200)).mono hb.size)).setCell (p:=⟨S,4,none⟩) Sm (.slice (some ⟨W3.heap.size,0,none⟩) nds.length nds.length)))))))));clear fB Ek hrk hb P6 aF Nw aeG Kf hK Vr zZ IY;go_wp2_with fail
  go_meet
  exact⟨_,HN⟩
 case rest =>
 obtain⟨wB,hW⟩:=hcut;clear hK;have bR:Hid (o6 w wc S (.pointer (some ⟨Q,0,none⟩)) (.slice (some ⟨hB,0,none⟩) nds.length nds.length) (.slice (some ⟨kB,0,none⟩) nds.length nds.length) (.slice (some ⟨wB,0,none⟩) nds.length nds.length) (replicate nds.length aH) (N0 nds 0) (I4 nds 0) (!sb) nds.length 0/\∀j,0<=j->(replicate nds.length aH).getD j aH=aH):=ab (by
  obtain⟨h1,h2,h3,h4,h5,h6,h7,h8⟩:=uh hW;have qV:∀j,(replicate nds.length aH).getD j aH=aH:=λj=>by
   by_cases hj:j<nds.length
   .simp[hj]
   .rw[getD_eq_getElem?_getD,getElem?_eq_none (by rw[length_replicate];omega)];rfl
  have f8:∀i k,(mK S (.slice (some ⟨hB,0,none⟩) nds.length nds.length) (.slice (some ⟨kB,0,none⟩) nds.length nds.length) (.slice (some ⟨wB,0,none⟩) nds.length nds.length) (replicate nds.length aH) (replicate nds.length aH))[i]?=some (some k)->i=0/\k=S\/i=1/\k=hB\/i=2/\k=kB\/i=3/\k=wB:=λi k hi=>by
   rcases Ok hi with⟨a,b⟩|⟨a,e⟩|⟨a,e⟩|⟨a,e⟩|⟨j,hj,-,e⟩|⟨j,hj,-,e⟩
   .exact zq0 ⟨a,b⟩
   .exact zq1 (zq0 ⟨a,by injection e with e;exact e.symm⟩)
   .exact zq1 (zq1 (zq0 ⟨a,by injection e with e;exact e.symm⟩))
   .exact zq1 (zq1 (zq1 ⟨a,by injection e with e;exact e.symm⟩))
   .rw[qV]at e;cases e
   .rw[qV]at e;cases e
  refine⟨⟨h1,by unfold I4;simp,h2,h3,h4,λj hj=>by omega,λi j k hi hj=>?_,h8,λk hk=>?_⟩,λj _=>qV j⟩
  .have a1:=f8 i k hi;have a2:=f8 j k hj;omega
  .obtain⟨i,hi⟩:=aP.1 hk;have a1:=f8 i k hi;omega)
 clear hW;go_wp2_with fail
 go_loopg [5] nds.length (λgn iv wx=>∃(k:Nat) (WV:List Value),k+gn=nds.length/\iv=.int .i64 k/\Hid (o6 w wx S (.pointer (some ⟨Q,0,none⟩)) (.slice (some ⟨hB,0,none⟩) nds.length nds.length) (.slice (some ⟨kB,0,none⟩) nds.length nds.length) (.slice (some ⟨wB,0,none⟩) nds.length nds.length) WV (N0 nds k) (I4 nds k) (!sb) nds.length k/\∀j,k<=j->WV.getD j aH=aH))
 case atStart=>exact⟨0,_,by omega,rfl,bR⟩
 case round =>
  clear bR;obtain⟨k,WV,fC,rfl,hI⟩:=hrel;obtain⟨G1,wK⟩:∃G1,G1=gk:=⟨_,rfl⟩;by_cases ar:k<nds.length
  .have hd:decide ((k:Int)<(nds.length:Int))=true:=(by simp;omega);obtain⟨h1,h2⟩:=uh hI;have d4:=h1.bs.cell 4 rfl;have aT:=af wr (.cells (madeCells #[Value.bool false] 5) 4);have hrA:=h1.wr.alloc (.cells (madeCells #[Value.bool false] 5) 4);have e4:=(h1.bs.alloc (.cells (madeCells #[Value.bool false] 5) 4)).cell 4 rfl;have hwl:=h1.wl;have ck:=hrA.cellAt k (by omega);rw[getElem?_eq_getElem (by omega)]at ck;have zk:=hrA.frozenAt k;obtain⟨h3,h4⟩:=h1.row ar h2 (o:=.cells (madeCells #[Value.bool false] 5) 4) rfl (wB:=wB) (wC:=nds.length) rfl;obtain⟨W4,vu⟩:∃W4,W4=(wr.alloc (.cells (madeCells #[Value.bool false] 5) 4)).setCell ⟨wB,k,none⟩ (.slice (some ⟨wr.heap.size,0,none⟩) 5 5):=⟨_,rfl⟩;rw[<-vu]at h3;have i1:(0:Int)<=(k:Int):=(by omega);have i2:(k:Int)<(nds.length:Int):=(by omega);have H3:=ab (zq2 h3 h4);clear h1 h2 aT hrA h3 h4 hI;go_upto_region 9 with fail;go_cut [] (λwx=>∃WV',Hid (o6 w wx S (.pointer (some ⟨Q,0,none⟩)) (.slice (some ⟨hB,0,none⟩) nds.length nds.length) (.slice (some ⟨kB,0,none⟩) nds.length nds.length) (.slice (some ⟨wB,0,none⟩) nds.length nds.length) WV' (N0 nds k) (I4 nds k) (!sb) nds.length (k+1)/\∀j,k+1<=j->WV'.getD j aH=aH))
   case first =>
    go_region
    all_goals
     go_wp2_with fail
     go_meet
     exact⟨_,ab ⟨(uh H3).1.of_eq (by omega) (λq _=>by rw[vu];rfl) ⟨by have:=(uh H3).1.bl.os;rw[vu]at this;exact this,by have:=(uh H3).1.bl.tape;rw[vu]at this;exact this,by have:=(uh H3).1.bl.output;rw[vu]at this;exact this,by have:=(uh H3).1.bl.size;rw[vu]at this;exact this,by have:=(uh H3).1.bl.block;rw[vu]at this;exact this⟩,(uh H3).2⟩⟩
   case rest =>
    clear H3 vu ck zk e4 d4 hwl;obtain⟨WV',hH⟩:=hcut;obtain⟨g,cap2,cM,x0,x1,x2,x3,x4,x5,gE⟩:=uh KE k ar;have hqc:=((uh hH).1.bl.cell Ye).trans c3;simp only[Value.slice.injEq]at cM;obtain⟨rfl,-,rfl⟩:=cM;have x0:=((uh hH).1.bl.cell gE).trans x0;have x1:=((uh hH).1.bl.cell gE).trans x1;have x2:=((uh hH).1.bl.cell gE).trans x2;have x3:=((uh hH).1.bl.cell gE).trans x3;have x4:=((uh hH).1.bl.cell gE).trans x4;have x5:=((uh hH).1.bl.cell gE).trans x5;have fB:lJ nds k=(decide (nds[k].op=10)&&decide (nds[k].nx<k)):=(by unfold lJ;rw[bp ar]);have hhs:=MV nds k;have uR:=N2 nds k;rw[bp ar]at hhs;obtain⟨nd,cH⟩:∃nd,nd=nds[k]:=⟨_,rfl⟩;rw[<-cH]at x0 x1 x2 x3 x4 x5 fB hhs;obtain⟨W5,jl⟩:∃W5,W5=wc.alloc (.cells #[Value.int .i64 (nd.op:Int),.int .i64 (nd.v:Int),.int .i64 (nd.ak:Int),.int .i64 (nd.ai:Int),.int .i64 (nd.nx:Int),.int .i64 (nd.ot:Int)] 186):=⟨_,rfl⟩;have aT:Below wc.heap.size wc W5:=(by rw[jl];exact af wc _);have ir:Bk W5 wc.heap.size 186 nd.cells:=(by rw[jl];exact Bk.new wc _ _);obtain⟨Y,mF⟩:∃Y,Y=wc.heap.size:=⟨_,rfl⟩;rw[<-mF]at ir;have h5:=(uh hH).1.below (by omega) (uh hH).2 aT;have y0:=ir.cell 0 rfl;have y4:=ir.cell 4 rfl;have zV:=ir.lt;have hYn:∀q∈cD S (.slice (some ⟨hB,0,none⟩) nds.length nds.length) (.slice (some ⟨kB,0,none⟩) nds.length nds.length) (.slice (some ⟨wB,0,none⟩) nds.length nds.length) (replicate nds.length aH) WV',q≠Y:=λq hq e=>by have:=(uh hH).1.lt (uh hH).2 q hq;omega
    have H5:=ab (zq2 h5 (uh hH).2);have Cw:=ab fB;have HHS:=ab hhs;have HLS:=ab uR;have HYN:=ab hYn;clear aT ir h5 fB hhs uR cH hYn hH;go_upto_region 11 with fail;rw[<-jl,<-mF];clear jl mF x0 x1 x2 x3 x4 x5 hqc;by_cases Ge:nd.op=10
    .have d0:((nd.op:Int)==(10:Int))=true:=(by simp[Ge]);by_cases hb:nd.nx<k
     .have d1:decide ((nd.nx:Int)<(k:Int))=true:=(by simp;omega);have d1':decide (nd.nx<k)=true:=(by simpa using hb);have CS:lJ nds k=true:=(by rw[uh Cw];simp[Ge,hb]);have bK:=(uh H5).1.bs.cell 1 rfl;have hhl:=(uh H5).1.hl;have hcA:=(uh H5).1.hr.cellAt nd.nx (by omega);rw[eC (by omega)]at hcA;have hzA:=(uh H5).1.hr.frozenAt nd.nx;have h6:=(uh H5).1.head (by omega) (n:=nd.nx) (hB:=hB) (hC:=nds.length) rfl;have H6:=ab h6;have HBT:=ab CS;have m1:(0:Int)<=(nd.nx:Int):=(by omega);have m2:(nd.nx:Int)<(nds.length:Int):=(by omega);clear h6 CS hhl Ge hb;go_upto_region 12 with fail;go_cut [] (λwx=>Hid (o6 w wx S (.pointer (some ⟨Q,0,none⟩)) (.slice (some ⟨hB,0,none⟩) nds.length nds.length) (.slice (some ⟨kB,0,none⟩) nds.length nds.length) (.slice (some ⟨wB,0,none⟩) nds.length nds.length) WV' (N0 nds k) ((I4 nds k).set nd.nx true) (!sb) nds.length (k+1)))
      case first =>
       go_region
       all_goals
        go_wp2_with fail
        go_meet
        exact ab ((uh H6).of_eq (by omega) (λq _=>rfl) ⟨(uh H6).bl.os,(uh H6).bl.tape,(uh H6).bl.output,(uh H6).bl.size,(uh H6).bl.block⟩)
      case rest =>
       clear H6 y0 y4 bK hcA hzA;have s2:=(uh hcut).bs.cell 2 rfl;have s2z:=(uh hcut).bs.frz 2;have HN:Hid (o6 w (wc.setCell ⟨S,2,none⟩ (.bool true)) S (.pointer (some ⟨Q,0,none⟩)) (.slice (some ⟨hB,0,none⟩) nds.length nds.length) (.slice (some ⟨kB,0,none⟩) nds.length nds.length) (.slice (some ⟨wB,0,none⟩) nds.length nds.length) WV' (N0 nds (k+1)) (I4 nds (k+1)) (!sb) nds.length (k+1)/\∀j,k+1<=j->WV'.getD j aH=aH):=ab (by
        rw[uh HLS,uh HHS,uh HBT,if_pos rfl,Bool.or_true];exact⟨(uh hcut).loop (by omega),(uh H5).2⟩)
       clear hcut;go_wp2_with fail
       go_roundg (G1-1)
       case rel=>exact⟨k+1,_,by omega,by go_num,HN⟩
       case measure=>omega
     .have d1:decide ((nd.nx:Int)<(k:Int))=false:=(by simp;omega);have d1':decide (nd.nx<k)=false:=(by simpa using hb);have CS:lJ nds k=false:=(by rw[uh Cw];simp[hb]);have HN:Hid (o6 w W5 S (.pointer (some ⟨Q,0,none⟩)) (.slice (some ⟨hB,0,none⟩) nds.length nds.length) (.slice (some ⟨kB,0,none⟩) nds.length nds.length) (.slice (some ⟨wB,0,none⟩) nds.length nds.length) WV' (N0 nds (k+1)) (I4 nds (k+1)) (!sb) nds.length (k+1)/\∀j,k+1<=j->WV'.getD j aH=aH):=ab (by
       rw[uh HLS,uh HHS,CS,if_neg (by decide),Bool.or_false];exact uh H5)
      clear CS Ge hb;go_wp2_with fail
      go_roundg (G1-1)
      case rel=>exact⟨k+1,_,by omega,by go_num,HN⟩
      case measure=>omega
    .have d0:((nd.op:Int)==(10:Int))=false:=(by simp;omega);have CS:lJ nds k=false:=(by rw[uh Cw];simp[Ge]);have HN:Hid (o6 w W5 S (.pointer (some ⟨Q,0,none⟩)) (.slice (some ⟨hB,0,none⟩) nds.length nds.length) (.slice (some ⟨kB,0,none⟩) nds.length nds.length) (.slice (some ⟨wB,0,none⟩) nds.length nds.length) WV' (N0 nds (k+1)) (I4 nds (k+1)) (!sb) nds.length (k+1)/\∀j,k+1<=j->WV'.getD j aH=aH):=ab (by
      rw[uh HLS,uh HHS,CS,if_neg (by decide),Bool.or_false];exact uh H5)
     clear CS Ge;go_wp2_with fail
     go_roundg (G1-1)
     case rel=>exact⟨k+1,_,by omega,by go_num,HN⟩
     case measure=>omega
  .have hd:decide ((k:Int)<(nds.length:Int))=false:=(by simp;omega);have gy:k=nds.length:=(by omega);have HP:Hid (dQ S wr):=ab (by
    rw[uh eU];obtain⟨h1,h2⟩:=uh hI;rw[gy,uh HSB]at h1;exact⟨_,_,_,WV,h1.sh,h1.bl,h1.ge⟩)
   clear gy hI;go_wp2_with fail
   go_ret;exact⟨S,rfl,uh HP⟩
end
