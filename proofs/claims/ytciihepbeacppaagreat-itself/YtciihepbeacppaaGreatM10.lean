import Derived.Test.YtciihepbeacppaaGreatM09
set_option maxRecDepth 100000
set_option maxHeartbeats 0
namespace Go.Proofs.YtciihepbeacppaaGreat
open Tryz Go.RowKit List World Below
set_option linter.unusedVariables false
theorem Sq.below{w w':World}{q f t:Nat}{an:List (Option Nat)}{st:Int}(h:Sq w q f t an st)(hb:Below w.heap.size w w'):Sq w' q f t an st:=by
 obtain⟨mid,vv,ov0,uv,pv0,lI,JT,yM⟩:=h;exact⟨mid,vv,ov0,uv,pv0,lI.of_eq (hb.block _ (ownsRow.lt lI _ rfl).2),JT,yM⟩
theorem dF.below{w w':World}{A:Nat}{f:CF}{av ov:Value}(h:dF w A f av ov)(hb:Below w.heap.size w w'):dF w' A f av ov:=h.of_eq (λk hk=>hb.block k (h.lt k hk))
theorem UJ{w w':World}{B:Nat}{e:TypeId}{sz n:Nat}{v:Value}{xs:List Value}(h:w.ownsRow B e sz v n xs)(hb:Below w.heap.size w w'):w'.ownsRow B e sz v n xs:=ae h (λk hk=>hb.block k (h.lt k hk).2)
def tP(n:Nat)(l:List Pr)(i:Nat):List Pr:=(range i).foldl (cuF n l) l
theorem wY(n:Nat)(l:List Pr)(i:Nat):tP n l (i+1)=cuF n l (tP n l i) i:=by
 unfold tP;rw[range_succ,foldl_append];rfl
theorem Gb(l:List Pr)(i size:Nat):(fj l i size).length<=l.length+2:=by
 unfold fj;split
 .simp
 .split <;> simp
theorem Be(n:Nat)(l:List Pr)(i:Nat):l.length<=(tP n l i).length/\(tP n l i).length<=l.length+2*i:=by
 induction i with
 |zero=>exact⟨zq4 _,zq4 _⟩
 |succ i ih =>
  rw[wY];unfold cuF;split
  .have h1:=Ge (l:=tP n l i) (i:=i) (size:=3);have h2:=Gb (tP n l i) i 3;omega
  .omega
theorem D0{w:World}{q f t:Nat}{an:List (Option Nat)}{st:Int}{F T:CF}{l:List Pr}{fav fov tav tov lv:Value}(h:Se w q f t an F T fav fov tav tov st)(hl:w.ownsRow 0 182 3 lv l.length (af l))(sQ:l.length<=3000):
  Calls prog 154 #[.pointer (some ⟨q,0,none⟩),lv] w λe w'=>∃v,e=.returned v/\w'.ownsRow 0 182 3 v (lP F.ow.length l).length (af (lP F.ow.length l))/\(∀k,v.ownBlock=some k->lv.ownBlock=some k\/w.heap.size<=k)/\Below w.heap.size w w':=by
 obtain⟨lao,lcap,dX⟩:=aC hl;have HS:=ab h;have HL:=ab hl;have yj:=ab dX;rw[dX];clear h hl dX;go_enter func154,ntmps154;go_wp2_with fail
 go_loopw [5,6] (λfv i wr=>∃k:Nat,k<=l.length/\i=.int .i64 k/\Hid (wr.ownsRow 0 182 3 fv (tP F.ow.length l k).length (af (tP F.ow.length l k)))/\Hid (∀b,fv.ownBlock=some b->lv.ownBlock=some b\/w.heap.size<=b)/\Hid (Below w.heap.size w wr)) (λ_ i _=>l.length-(intOf i).toNat)
 case atStart=>exact⟨0,zq5 _,rfl,ab (by rw[<-uh yj];exact uh HL),ab (λb hb=>zq0 (by rw[uh yj];exact hb)),ab (Below.refl _ _)⟩
 case round =>
  obtain⟨k,hk,rfl,aR,aN,bS⟩:=hrel;by_cases aq:k<l.length
  .have hd:decide ((k:Int)<(l.length:Int))=true:=(by simp;omega);have HW:=ab (ye ((uh HS).sq.below (uh bS)) ((uh HS).ff.below (uh bS)) (UJ (uh HL) (uh bS)) aq);rw[uh yj]at HW;have aE:=wY F.ow.length l k;unfold cuF at aE;cases EI:Vf F.ow.length l k with
   |true =>
    rw[EI,if_pos rfl]at aE;rw[EI]at HW;have cN:=Be F.ow.length l k;have Rq:=ab (Gc (i:=k) (size:=3) (uh aR) (by omega) (by omega) (zq1 (zq1 rfl)));have QQ:=ab aE;clear aE;go_wp2_with fail
    refine(uh HW).mono ?_;rintro e w1 ⟨rfl,rfl⟩;go_wp2_with fail
    refine(uh Rq).mono ?_;rintro e w2 ⟨v2,rfl,um,aL⟩;have Ah:=ab um;have cg:=ab aL;clear um aL;go_wp2_with fail
    go_roundw
    case rel =>
     refine⟨k+1,by omega,by go_num,ab ?_,ab (λb hb=>zq1 ?_),ab ((uh bS).trans ((uh cg).mono (uh bS).size))⟩
     .rw[uh QQ];exact eM (uh Ah) (zq5 _)
     .have h1:=((uh Ah).lt b hb).1;have h2:=(uh bS).size;omega
    case measure=>simp[intOf];omega
   |false =>
    rw[EI,if_neg (by simp)]at aE;rw[EI]at HW;have QQ:=ab aE;clear aE;go_wp2_with fail
    refine(uh HW).mono ?_;rintro e w1 ⟨rfl,rfl⟩;go_wp2_with fail
    go_roundw
    case rel=>exact⟨k+1,by omega,by go_num,ab (by rw[uh QQ];exact uh aR),aN,bS⟩
    case measure=>simp[intOf];omega
  .have hd:decide ((k:Int)<(l.length:Int))=false:=(by simp;omega);have jf:k=l.length:=(by omega);subst jf;go_wp2_with fail
   refine bodyPost_ret (v:=u5) (by simp[results,Tryz.results154,go_sem]) rfl ⟨_,rfl,uh aR,by rw[<-uh yj];exact uh aN,uh bS⟩
def CS(i:Nat)(b:Option Nat):Bool:=b==some (24+2*i)||b==some (25+2*i)
theorem Id(o:Option Nat)(n:Nat):(dp o==(n:Int))=(o==some n):=by
 cases o with
 |none=>simp[dp]
 |some m=>rw[Bool.eq_iff_iff];simp[dp];omega
theorem Ku{y:oO}{T V:CF}{w:World}{s:SS}(h:Sw w y T V s)(rH:s.ot.length=V.ow.length)(Y0:V.ow.length<=100000){i:Nat}(hi:i<s.ot.length):
  Calls prog 179 #[.pointer (some ⟨y.q,0,none⟩),.int .i64 i] w λe w'=>e=.returned (.bool (Ri V.ow s i))/\∃n,w'=w.drewN n:=by
 have NE:=h.cv;have Rw:=ab (xJ i (by omega) w);obtain⟨near,rI⟩:∃near:Nat,near=24+2*i:=⟨_,rfl⟩;obtain⟨far,BU⟩:∃far:Nat,far=25+2*i:=⟨_,rfl⟩;rw[<-rI,<-BU]at Rw;have dm:=ab (bU near h.fv);have cg:=ab (bU far h.fv);have HS:=ab h;have HN:=ab rI;have HF:=ab BU;have HE0:Hid ((cR V.ow near=none\/cR V.ow far=none)->Ri V.ow s i=true):=ab (by
  intro hx;unfold Ri;rw[<-rI,<-BU];rcases hx with hx|hx
  .rw[hx]
  .rw[hx];cases cR V.ow near <;> rfl)
 clear h rI BU;cases h1:cR V.ow near with
 |none =>
  have HE:=ab (uh HE0 (zq0 h1));rw[h1]at dm;clear h1;go_enter func179,ntmps179;go_wp2_with fail
  refine(uh Rw).mono ?_;rintro e w1 ⟨rfl,rfl⟩;go_wp2_with fail
  refine(uh dm).mono ?_;rintro e w2 ⟨rfl,rfl⟩;rw[show dp none=(-1:Int) from rfl];go_wp2_with fail
  refine(uh cg).mono ?_;rintro e w3 ⟨rfl,rfl⟩;go_wp2_with fail
  go_ret;exact⟨by rw[uh HE];rfl,0,rfl⟩
 |some m =>
  obtain⟨hm,-⟩:=gF h1;cases h2:cR V.ow far with
  |none =>
   have HE:=ab (uh HE0 (zq1 h2));rw[h1]at dm;rw[h2]at cg;have hm0:decide ((m:Int)<0)=false:=(by simp);clear h1 h2;go_enter func179,ntmps179;go_wp2_with fail
   refine(uh Rw).mono ?_;rintro e w1 ⟨rfl,rfl⟩;go_wp2_with fail
   refine(uh dm).mono ?_;rintro e w2 ⟨rfl,rfl⟩;rw[show dp (some m)=(m:Int) from rfl];go_wp2_with fail
   refine(uh cg).mono ?_;rintro e w3 ⟨rfl,rfl⟩;rw[show dp none=(-1:Int) from rfl];go_wp2_with fail
   go_ret;exact⟨by rw[uh HE];rfl,0,rfl⟩
  |some e0 =>
   obtain⟨he,-⟩:=gF h2;have hm':m<s.ot.length:=(by omega);have he':e0<s.ot.length:=(by omega);obtain⟨O,ocap,d7,ZF,WB,-,-⟩:=(uh HS).own (by intro e;rw[e]at hi;simp at hi);have ZE:ocap<=9223372036854775807:=(by unfold maxLen at WB;omega);have hco:=(uh HS).co;rw[d7]at hco;obtain⟨vI,-⟩:=(uh HS).ocell d7 hi;obtain⟨vJ,-⟩:=(uh HS).ocell d7 hm';obtain⟨hx3,-⟩:=(uh HS).ocell d7 he';obtain⟨oi,ZJ⟩:∃x,x=s.ot.getD i none:=⟨_,rfl⟩;obtain⟨om,hom⟩:∃x,x=s.ot.getD m none:=⟨_,rfl⟩;obtain⟨oe,ZG⟩:∃x,x=s.ot.getD e0 none:=⟨_,rfl⟩;rw[<-ZJ]at vI;rw[<-hom]at vJ;rw[<-ZG]at hx3;have Oi:∀a b:Option Nat,(dp a != dp b)=decide (a≠b):=by
    intro a b;cases a <;> cases b <;> rw[Bool.eq_iff_iff] <;> simp[dp] <;> omega
   have xF:=Oi om oi;have WI:=Oi oe oi;have HE1:Hid (Ri V.ow s i=if om≠oi\/oe≠oi then true else s.bd.any (CS i)):=ab (by
    unfold Ri;rw[<-uh HN,<-uh HF,h1,h2];dsimp only;rw[<-ZJ,<-hom,<-ZG,uh HN,uh HF];rfl)
   rw[h1]at dm;rw[h2]at cg;have hm0:decide ((m:Int)<0)=false:=(by simp);have he0:decide ((e0:Int)<0)=false:=(by simp);have I4:=ab d7;clear h1 h2 d7 ZJ hom ZG Oi WB;by_cases hb:om≠oi\/oe≠oi
   .have HE:Hid (Ri V.ow s i=true):=ab (by rw[uh HE1,if_pos hb]);by_cases a7:om=oi
    .have aL:oe≠oi:=(by rcases hb with h|h;exact absurd a7 h;exact h);rw[decide_eq_false (by simpa using a7)]at xF;rw[decide_eq_true aL]at WI;clear hb a7 aL;go_enter func179,ntmps179;go_wp2_with fail
     refine(uh Rw).mono ?_;rintro e w1 ⟨rfl,rfl⟩;go_wp2_with fail
     refine(uh dm).mono ?_;rintro e w2 ⟨rfl,rfl⟩;rw[show dp (some m)=(m:Int) from rfl];go_wp2_with fail
     refine(uh cg).mono ?_;rintro e w3 ⟨rfl,rfl⟩;rw[show dp (some e0)=(e0:Int) from rfl];go_wp2_with fail
     go_quiet (fail)
     go_wp2_with fail
     go_ret;exact⟨by rw[uh HE];rfl,_,rfl⟩
    .rw[decide_eq_true a7]at xF;clear hb a7;go_enter func179,ntmps179;go_wp2_with fail
     refine(uh Rw).mono ?_;rintro e w1 ⟨rfl,rfl⟩;go_wp2_with fail
     refine(uh dm).mono ?_;rintro e w2 ⟨rfl,rfl⟩;rw[show dp (some m)=(m:Int) from rfl];go_wp2_with fail
     refine(uh cg).mono ?_;rintro e w3 ⟨rfl,rfl⟩;rw[show dp (some e0)=(e0:Int) from rfl];go_wp2_with fail
     go_quiet (fail)
     go_wp2_with fail
     go_ret;exact⟨by rw[uh HE];rfl,_,rfl⟩
   .have HE:Hid (Ri V.ow s i=s.bd.any (CS i)):=ab (by rw[uh HE1,if_neg hb]);have a7:om=oi:=Classical.byContradiction (λh=>hb (zq0 h));have aL:oe=oi:=Classical.byContradiction (λh=>hb (zq1 h));rw[decide_eq_false (by simpa using a7)]at xF;rw[decide_eq_false (by simpa using aL)]at WI;clear hb a7 aL;go_enter func179,ntmps179;go_wp2_with fail
    refine(uh Rw).mono ?_;rintro e w1 ⟨rfl,rfl⟩;go_wp2_with fail
    refine(uh dm).mono ?_;rintro e w2 ⟨rfl,rfl⟩;rw[show dp (some m)=(m:Int) from rfl];go_wp2_with fail
    refine(uh cg).mono ?_;rintro e w3 ⟨rfl,rfl⟩;rw[show dp (some e0)=(e0:Int) from rfl];go_wp2_with fail
    go_quiet (fail)
    go_wp2_with fail
    go_loopw [9] (λc wr=>∃k:Nat,k<=24/\c=.int .i64 k/\Hid (∀j,j<k->CS i (s.b j)=false)/\∃n,wr=w3.drewN n) (λc _=>24-(intOf c).toNat)
    case atStart=>exact⟨0,zq5 _,rfl,ab (λj hj=>by omega),_,rfl⟩
    case round =>
     obtain⟨k,hk,rfl,dh,n,rfl⟩:=hrel;by_cases aq:k<24
     .have hd:decide ((k:Int)<24)=true:=(by simp;omega);have Eo:=(uh HS).cb aq;obtain⟨bk,fq⟩:∃bk,bk=s.b k:=⟨_,rfl⟩;rw[<-fq]at Eo;have e1:=Id bk near;have e2:=Id bk far;have HT:Hid (CS i bk=((bk==some near)||(bk==some far))):=ab (by unfold CS;rw[uh HN,uh HF]);have Ac:=ab fq;have GP:k<s.bd.length:=(by rw[(uh HS).lb];exact aq);clear fq;cases f1:(bk==some near) with
      |true =>
       rw[f1]at e1;go_wp2_with fail
       go_ret;refine⟨?_,n,rfl⟩;rw[uh HE];have:s.bd.any (CS i)=true:=any_eq_true.2 ⟨s.bd[k],getElem_mem GP,by
        have h3:s.b k=s.bd[k]:=(by unfold SS.b;simp[GP]);rw[<-h3,<-uh Ac,uh HT,f1];rfl⟩
       rw[this];rfl
      |false =>
       rw[f1]at e1;cases f2:(bk==some far) with
       |true =>
        rw[f2]at e2;go_wp2_with fail
        go_ret;refine⟨?_,n,rfl⟩;rw[uh HE];have:s.bd.any (CS i)=true:=any_eq_true.2 ⟨s.bd[k],getElem_mem GP,by
         have h3:s.b k=s.bd[k]:=(by unfold SS.b;simp[GP]);rw[<-h3,<-uh Ac,uh HT,f1,f2];rfl⟩
        rw[this];rfl
       |false =>
        rw[f2]at e2;go_wp2_with fail
        go_roundw
        case rel =>
         refine⟨k+1,by omega,by go_num,ab (λj hj=>?_),n,rfl⟩;by_cases e:j=k
         .subst e;rw[<-uh Ac,uh HT,f1,f2];rfl
         .exact uh dh j (by omega)
        case measure=>simp[intOf];omega
     .have hd:decide ((k:Int)<24)=false:=(by simp;omega);go_wp2_with fail
      go_ret;refine⟨?_,n,rfl⟩;rw[uh HE];have:s.bd.any (CS i)=false:=by
       rw[any_eq_false];intro b hb;obtain⟨j,hj,rfl⟩:=mem_iff_getElem.1 hb;have h3:s.b j=s.bd[j]:=(by unfold SS.b;simp[hj]);have h4:=uh dh j (by have:=(uh HS).lb;omega);rw[<-h3,h4];simp
      rw[this];rfl
theorem D8{p:Nat->Bool}{n k:Nat}(hk:k<n)(hn:∀j,j<k->p j=false)(h:p k=true):(range n).find? p=some k:=by
 rw[find?_eq_some_iff_getElem];refine⟨h,k,by simpa using hk,by simp,λj hj=>?_⟩;simp[hn j hj]
theorem rY{p:Nat->Bool}{n:Nat}(hn:∀j,j<n->p j=false):(range n).find? p=none:=by
 rw[find?_eq_none];intro j hj;rw[hn j (mem_range.1 hj)];simp
theorem Qi{y:oO}{F T V:CF}{w:World}{s:SS}{l:List Pr}{fav fov lv:Value}(h:Sw w y T V s)(hF:dF w y.f F fav fov)(hl:w.ownsRow 0 182 3 lv l.length (af l))(rH:s.ot.length=V.ow.length)(Y0:V.ow.length<=100000)(hlV:l.length<=V.ow.length):
  Calls prog 155 #[.pointer (some ⟨y.q,0,none⟩),lv] w λe w'=>e=.returned (.int .i64 (dp (trn F.ow.length l V.ow s)))/\∃n,w'=w.drewN n:=by
 obtain⟨lao,lcap,dX⟩:=aC hl;have HS:=ab h;have HF:=ab hF;have HL:=ab hl;have yj:=ab dX;rw[dX];clear h hF hl dX;go_enter func155,ntmps155;go_wp2_with fail
 go_loopw [5] (λi wr=>∃k:Nat,k<=l.length/\i=.int .i64 k/\Hid (∀j,j<k->(Vf F.ow.length l j&&Ri V.ow s j)=false)/\∃n,wr=w.drewN n) (λi _=>l.length-(intOf i).toNat)
 case atStart=>exact⟨0,zq5 _,rfl,ab (λj hj=>by omega),0,rfl⟩
 case round =>
  obtain⟨k,hk,rfl,dh,n,rfl⟩:=hrel;by_cases aq:k<l.length
  .have hd:decide ((k:Int)<(l.length:Int))=true:=(by simp;omega);have JF:=(uh HS).drewN n;have HW:=ab (ye (i:=k) JF.sq ((uh HF).drewN n) (ae (uh HL) (λ_ _=>by simp)) aq);rw[uh yj]at HW;have HTe:=ab (Ku JF rH Y0 (i:=k) (by omega));clear JF;cases EI:Vf F.ow.length l k with
   |false =>
    rw[EI]at HW;go_wp2_with fail
    refine(uh HW).mono ?_;rintro e w1 ⟨rfl,rfl⟩;go_wp2_with fail
    go_roundw
    case rel =>
     refine⟨k+1,by omega,by go_num,ab (λj hj=>?_),n,rfl⟩;by_cases e:j=k
     .subst e;rw[EI];rfl
     .exact uh dh j (by omega)
    case measure=>simp[intOf];omega
   |true =>
    rw[EI]at HW;go_wp2_with fail
    refine(uh HW).mono ?_;rintro e w1 ⟨rfl,rfl⟩;go_wp2_with fail
    refine(uh HTe).mono ?_;rintro e w2 ⟨rfl,n2,rfl⟩;cases Ow:Ri V.ow s k with
    |true =>
     have HE:Hid (trn F.ow.length l V.ow s=some k):=ab (D8 aq (uh dh) (by rw[EI,Ow];rfl));go_wp2_with fail
     go_ret;exact⟨by rw[uh HE];rfl,n+n2,rfl⟩
    |false =>
     go_wp2_with fail
     go_roundw
     case rel =>
      refine⟨k+1,by omega,by go_num,ab (λj hj=>?_),n+n2,rfl⟩;by_cases e:j=k
      .subst e;rw[EI,Ow];rfl
      .exact uh dh j (by omega)
     case measure=>simp[intOf];omega
  .have hd:decide ((k:Int)<(l.length:Int))=false:=(by simp;omega);have HE:Hid (trn F.ow.length l V.ow s=none):=ab (rY (λj hj=>uh dh j (by omega)));go_wp2_with fail
   go_ret;exact⟨by rw[uh HE];rfl,n,rfl⟩
def nWh(n:Nat)(l:List Pr):Nat:=((range n).filter (λi=>(l.getD i au).k==4)).length
theorem Br{p q:Nat->Bool}{l:List Nat}{i:Nat}(hl:l.Nodup)(hi:i∈l)(hp:p i=true)(hq:q i=false)(h:∀j∈l,j≠i->q j=p j):(l.filter q).length+1=(l.filter p).length:=by
 induction l with
 |nil=>cases hi
 |cons a l ih =>
  have hn:=nodup_cons.1 hl;by_cases e:a=i
  .subst e;have:l.filter q=l.filter p:=filter_congr (λj hj=>h j (by simp[hj]) (λe=>hn.1 (e ▸ hj)));simp[hp,hq,this]
  .have hm:i∈l:=by
    rcases mem_cons.1 hi with h|h
    .exact absurd h.symm e
    .exact h
   have h2:=h a (by simp) e;have h3:=ih hn.2 hm (λj hj=>h j (by simp[hj]));cases KY:p a with
   |true =>
    rw[filter_cons_of_pos KY,filter_cons_of_pos (by rw[h2,KY]),length_cons,length_cons];omega
   |false =>
    rw[filter_cons_of_neg (p:=q) (by rw[h2,KY];simp),filter_cons_of_neg (p:=p) (by rw[KY];simp)];exact h3
theorem Uf{n:Nat}{l:List Pr}(hn:n<=l.length){i:Nat}(hi:i<n)(hk:(l.getD i au).k=4)(size:Nat):nWh n (fj l i size)+1=nWh n l:=by
 unfold nWh;refine Br nodup_range (mem_range.2 hi) ?_ ?_ (λj hj hji=>?_)
 .rw[hk];rfl
 .rw[Ml (by omega) (by omega),if_pos rfl];rfl
 .have:=mem_range.1 hj;rw[Ml (by omega) (by omega),if_neg (λe=>hji e.symm)]
structure Al(w:World)(q f t:Nat)(an:List (Option Nat))(F T:CF)(fav fov tav tov:Value)(st:Int)(l:List Pr)(lv:Value):Prop where
 se:Se w q f t an F T fav fov tav tov st
 rw:w.ownsRow 0 182 3 lv l.length (af l)
 lq:∀k,lv.ownBlock=some k->k≠q
 ln:F.ow.length<=l.length
 bd:l.length+2*nWh F.ow.length l<=1000
theorem Al.after{w w':World}{q f t:Nat}{an:List (Option Nat)}{F T:CF}{fav fov tav tov:Value}{st st':Int}{l:List Pr}{lv:Value}(h:Al w q f t an F T fav fov tav tov st l lv)(hb:∀k,k<w.heap.size->k≠q->w'.heap[k]?=w.heap[k]?)(hs:Sq w' q f t an st'):Al w' q f t an F T fav fov tav tov st' l lv :=
 ⟨⟨hs,h.se.ff.of_eq (λk hk=>hb k (h.se.ff.lt k hk) (h.se.nf k hk)),h.se.ft.of_eq (λk hk=>hb k (h.se.ft.lt k hk) (h.se.nt k hk)),h.se.nf,h.se.nt⟩,
  ae h.rw (λk hk=>hb k (h.rw.lt k hk).2 (h.lq k hk)),h.lq,h.ln,h.bd⟩
theorem LH{F T:CF}{an:List (Option Nat)}{m:Nat}{st:Int}{l:List Pr}{r1 r2:Bool × SS}(h1:r1=xj (vw F l) T an st)(h2:r2=xj (vw F (lP F.ow.length l)) T an r1.2.st):
  rV F T an (m+1) st l=if r1.1=true then (true,r1.2.st) else if r2.1=true then (match trn F.ow.length l (lP F.ow.length l) r2.2 with
   |none=>(false,r2.2.st)
   |some i=>match rV F T an m r2.2.st (fj l i 1) with
     |(false,t)=>(false,t)
     |(true,t)=>match rV F T an m t (fj l i 2) with
      |(false,t)=>(false,t)
      |(true,t)=>rV F T an m t (fj l i 3)) else (false,r2.2.st):=by
 rw[rV,<-h1];obtain⟨b1,s1⟩:=r1;cases b1 with
 |true=>rfl
 |false =>
  dsimp only at h2 ⊢;rw[<-h2];obtain⟨b2,s2⟩:=r2;cases b2 <;> rfl
theorem aaP{W:SS->Nat->Nat->Nat->Bool × SS}(hW:∀s k a c,(W s k a c).2.ot.length=s.ot.length){k left count:Nat}:∀(l:List Pr) (s:SS),(CA W k left count l s).2.ot.length=s.ot.length:=by
 intro l;induction l with
 |nil=>intro s;rfl
 |cons p r ih =>
  intro s;have h1:=hW { s with bd:=s.bd.set left (some p.l) } k p.l count;simp only[CA];cases hr:W { s with bd:=s.bd.set left (some p.l) } k p.l count with
  |mk b s' =>
   rw[hr]at h1;cases b with
   |true=>exact h1
   |false=>exact(ih s').trans h1
theorem Pw{V T:CF}{W:SS->Nat->Nat->Nat->Bool × SS}(hW:∀s k a c,(W s k a c).2.ot.length=s.ot.length)(s:SS)(count:Nat):(pP W V T s count).2.ot.length=s.ot.length:=by
 unfold pP;split
 .rfl
 .split
  .rfl
  .split
   .rfl
   .split
    .exact hW _ _ _ _
    .exact aaP hW _ _
theorem Yi{T:CF}{P:SS->Nat->Bool × SS}(hP:∀s c,(P s c).2.ot.length=s.ot.length)(s:SS)(k at_ count:Nat):(yB P T s k at_ count).2.ot.length=s.ot.length:=by
 unfold yB;split
 .rfl
 .have h1:=hP { s with bd:=s.bd.set (T.ow.getD k au).r (some at_),pl:=s.pl.set k true } (count+1);cases hr:P { s with bd:=s.bd.set (T.ow.getD k au).r (some at_),pl:=s.pl.set k true } (count+1) with
  |mk b s' =>
   rw[hr]at h1;cases b <;> exact h1
theorem ahb{V T:CF}:∀(m:Nat) (s:SS) (k a c:Nat),(wk V T m s k a c).2.ot.length=s.ot.length:=by
 intro m;induction m with
 |zero=>intro s k a c;rfl
 |succ m ih =>
  intro s k a c;by_cases h0:wrap64 (s.st-1)<0
  .simp only[wk];rw[if_pos h0]
  .cases h1:cR V.ow a with
   |none=>simp only[wk];rw[if_neg h0,h1]
   |some i =>
    by_cases h2:s.ot.getD i none=none
    .by_cases h3:(T.ow.getD k au).k≠4/\(V.ow.getD i au).k=4
     .simp only[wk];rw[if_neg h0,h1];dsimp only;rw[if_neg (by rw[h2];simp),if_pos h3]
     .rw[IV h0 h1 h2 h3 rfl];have e1:=Yi (T:=T) (Pw (V:=V) (T:=T) ih) { s with st:=wrap64 (s.st-1),ot:=s.ot.set i (some k),un:=s.un-1 } k (V.ow.getD i au).r c;have e2:∀s2,(KA V T m s2 k (V.ow.getD i au).r c).2.ot.length=s2.ot.length:=by
       intro s2;unfold KA;split
       .exact ih _ _ _ _
       .rfl
      have e3:(s.ot.set i (some k)).length=s.ot.length:=(by simp);split
      .exact e1.trans e3
      .split
       .exact(e2 _).trans (e1.trans e3)
       .show(List.set _ _ _).length=_;rw[length_set];exact(e2 _).trans (e1.trans e3)
    .simp only[wk];rw[if_neg h0,h1];dsimp only;rw[if_pos h2]
theorem Yt(V T:CF)(an:List (Option Nat))(st:Int):(xj V T an st).2.ot.length=V.ow.length:=by
 unfold xj;rw[Pw (ahb _)];simp[lM]
def RU(F T:CF)(an:List (Option Nat))(m:Nat)(l:List Pr)(i:Nat):Nat->Int->Bool × Int
 |0,st=>(true,st)
 |c+1,st=>match rV F T an m st (fj l i (3-c)) with
  |(false,t)=>(false,t)
  |(true,t)=>RU F T an m l i c t
theorem Je(F T:CF)(an:List (Option Nat))(m:Nat)(l:List Pr)(i:Nat)(st:Int):RU F T an m l i 3 st=(match rV F T an m st (fj l i 1) with
     |(false,t)=>(false,t)
     |(true,t)=>match rV F T an m t (fj l i 2) with
      |(false,t)=>(false,t)
      |(true,t)=>rV F T an m t (fj l i 3)):=by
 simp only[RU];cases h1:rV F T an m st (fj l i (3-2)) with
 |mk b t =>
  cases b with
  |false=>rfl
  |true =>
   dsimp only;cases h2:rV F T an m t (fj l i (3-1)) with
   |mk b2 t2 =>
    cases b2 with
    |false=>rfl
    |true =>
     dsimp only;cases h3:rV F T an m t2 (fj l i (3-0)) with
     |mk b3 t3 =>
      cases b3 <;> rfl
def AlC(F T:CF)(an:List (Option Nat))(m:Nat):Prop :=
 ∀(w:World) (q f t:Nat) (fav fov tav tov:Value) (st:Int) (l:List Pr) (lv:Value),Al w q f t an F T fav fov tav tov st l lv->nWh F.ow.length l<m ->
  Calls prog 117 #[.pointer (some ⟨q,0,none⟩),lv] w λe w'=>e=.returned (.bool (rV F T an m st l).1)/\Sq w' q f t an (rV F T an m st l).2/\ar [q] w [q] w'
theorem ar.q{q:Nat}{w w':World}{F:List Nat}(h:ar [q] w F w'):ar [q] w [q] w':=⟨h.os,h.tape,h.output,h.size,h.block,λ_ hk=>zq0 hk⟩
theorem ar.blk{q:Nat}{w w':World}{F:List Nat}(h:ar [q] w F w'):∀k,k<w.heap.size->k≠q->w'.heap[k]?=w.heap[k]?:=λk hk aJ=>h.block k hk (by simpa using aJ)
theorem AX{F T:CF}{an:List (Option Nat)}(hR:Rm T)(hA:VL T)(pw:T.ow.length<=1000000){m:Nat}(ih:AlC F T an m):AlC F T an (m+1):=by
 intro w q f t fav fov tav tov st l lv h hm;have sQ:l.length<=1000:=by have:=h.bd;omega
 obtain⟨r1,ou⟩:∃r1,r1=xj (vw F l) T an st:=⟨_,rfl⟩;obtain⟨r2,iu⟩:∃r2,r2=xj (vw F (lP F.ow.length l)) T an r1.2.st:=⟨_,rfl⟩;have HE:=ab (LH (m:=m) ou iu);have vO:=ab (tV h.se h.rw h.lq (by omega) pw hR hA);rw[<-ou]at vO;have Rn:=ab h;have HIH:=ab ih;have HM:=ab hm;have Ah:=ab iu;obtain⟨lao,lcap,dX⟩:=aC h.rw;have yj:=ab dX;rw[dX]at vO ⊢;have ak5:=dX;clear h ih hm ou iu dX ak5;go_enter func117,ntmps117;go_wp2_with fail
 refine(uh vO).mono ?_;rintro e w1 ⟨rfl,v1,ov1,pv1,bq,jd,afn⟩;obtain⟨b1,s1⟩:=r1;cases b1 with
 |true =>
  have bT:=ab bq.sq;have mW:=ab jd.q;clear bq jd afn;go_wp2_with fail
  go_ret;rw[uh HE];exact⟨rfl,uh bT,uh mW⟩
 |false =>
  have SX:=(uh Rn).after jd.blk bq.sq;have mW:=ab jd.q;have Ld:=ab SX;have HCA:=ab (D0 SX.se SX.rw (by omega));rw[uh yj]at HCA;clear bq jd afn SX;dsimp only at HE Ah HCA Ld;go_wp2_with fail
  refine(uh HCA).mono ?_;rintro e w2 ⟨v2,rfl,um,aT,aL⟩;rw[<-uh yj]at aT;have YG:=(uh Ld).after (λk hk _=>aL.block k hk) ((uh Ld).se.sq.below aL);have afR:∀k,v2.ownBlock=some k->k≠q:=by
   intro k hk;rcases aT k hk with h1|h1
   .exact(uh Ld).lq k h1
   .obtain⟨_,_,_,_,_,lI,_,_⟩:=(uh Ld).se.sq;have h2:q<w1.heap.size:=(ownsRow.lt lI _ rfl).2;omega
  have du:=Be F.ow.length l l.length;have aqQ:(lP F.ow.length l).length<=3000:=by have:lP F.ow.length l=tP F.ow.length l l.length:=rfl;rw[this];omega
  have rt:=ab (tV YG.se um afR (by omega) pw hR hA);rw[<-uh Ah]at rt;have aiN:=ab YG;have ku:=ab ((uh mW).trans (ar.ofBelow (F:=[q]) aL));have amV:=ab um;obtain⟨cao,ccap,GS⟩:=aC um;subst GS;clear um aT aL YG afR;go_wp2_with fail
  refine(uh rt).mono ?_;rintro e w3 ⟨rfl,v3,ov3,pv3,bZ,lH,afo⟩;obtain⟨b2,s2⟩:=r2;cases b2 with
  |false =>
   have fV:=ab bZ.sq;have qg:=ab ((uh ku).trans lH.q);clear bZ lH afo;go_wp2_with fail
   go_ret;rw[uh HE];exact⟨rfl,uh fV,uh qg⟩
  |true =>
   dsimp only at bZ HE;have SY:=(uh aiN).after lH.blk bZ.sq;have afP:s2.ot.length=(lP F.ow.length l).length:=by
    have h1:=Yt (vw F (lP F.ow.length l)) T an s1.st;rw[<-uh Ah]at h1;exact h1
   have HTo:=ab (Qi (F:=F) (l:=l) bZ SY.se.ff SY.rw afP (by show(lP F.ow.length l).length<=100000;omega) (by show l.length<=(lP F.ow.length l).length;have:lP F.ow.length l=tP F.ow.length l l.length:=rfl;rw[this];exact du.1));rw[uh yj]at HTo;rw[show(vw F (lP F.ow.length l)).ow=lP F.ow.length l from rfl]at HTo;have Ro:=ab SY;have qg:=ab ((uh ku).trans lH.q);clear bZ lH afo SY afP;go_wp2_with fail
   refine(uh HTo).mono ?_;rintro e w4 ⟨rfl,n4,rfl⟩;cases htr:trn F.ow.length l (lP F.ow.length l) s2 with
   |none =>
    rw[htr]at HE;rw[show dp none=(-1:Int) from rfl];have kt:=ab ((uh Ro).after (w':=w3.drewN n4) (λ_ _ _=>by simp) ((uh Ro).se.sq.below ⟨rfl,rfl,rfl,zq4 _,λ_ _=>rfl⟩));clear htr;go_wp2_with fail
    go_ret;rw[uh HE];exact⟨rfl,(uh kt).se.sq,(uh qg).drewN n4⟩
   |some i =>
    rw[htr]at HE;obtain⟨hi,hik⟩:=Qk htr;have xB:i<l.length:=zq6 hi (uh Rn).ln;rw[show dp (some i)=(i:Int) from rfl];have iL:decide ((i:Int)<0)=false:=(by simp);have aiO:=ab ((uh Ro).after (w':=w3.drewN n4) (λ_ _ _=>by simp) ((uh Ro).se.sq.below ⟨rfl,rfl,rfl,zq4 _,λ_ _=>rfl⟩));have HT4:=ab ((uh qg).drewN n4);have HIK:=ab hik;clear htr HTo hik;have HZ:Hid (rV F T an (m+1) st l=RU F T an m l i 3 s2.st):=ab (by rw[uh HE,Je];rfl);go_wp2_with fail
    go_loopw [7] (λz wr=>∃(k:Nat) (stz:Int),1<=k/\k<=4/\z=.int .i64 k/\Hid (Al wr q f t an F T fav fov tav tov stz l lv)/\Hid (RU F T an m l i (4-k) stz=RU F T an m l i 3 s2.st)/\Hid (ar [q] w [q] wr)) (λz _=>4-(intOf z).toNat)
    case atStart=>exact⟨1,s2.st,zq4 _,by omega,rfl,aiO,ab rfl,HT4⟩
    case round =>
     obtain⟨k,stz,KW,ue,rfl,jC,hz,aE⟩:=hrel;by_cases aq:k<4
     .have hd:decide ((k:Int)<=3)=true:=(by simp;omega);have Rq:=ab (Gc (i:=i) (size:=k) (uh jC).rw xB (by omega) (by omega));rw[uh yj]at Rq;go_wp2_with fail
      refine(uh Rq).mono ?_;rintro e w5 ⟨v5,rfl,GQ,cD⟩;have Y4:=(uh jC).after (λk hk _=>cD.block k hk) ((uh jC).se.sq.below cD);have hq5:q<wr.heap.size:=by
       obtain⟨_,_,_,_,_,lI,_,_⟩:=(uh jC).se.sq;exact(ownsRow.lt lI _ rfl).2
      have hnw:=Uf (uh Rn).ln hi (uh HIK) k;have halC:Al w5 q f t an F T fav fov tav tov stz (fj l i k) v5:=⟨Y4.se,eM GQ (zq5 _),λb hb=>by have:=(GQ.lt b hb).1;omega,zq3 (uh Rn).ln Ge,by
       have h1:=Gb l i k;have h2:=(uh Rn).bd;omega⟩
      have HAw:=ab (uh HIH w5 q f t fav fov tav tov stz (fj l i k) v5 halC (by have:=uh HM;omega));have el:RU F T an m l i (4-k) stz=(match rV F T an m stz (fj l i k) with
       |(false,t)=>(false,t)
       |(true,t)=>RU F T an m l i (4-(k+1)) t):=by
       rw[show 4-k=(4-(k+1))+1 by omega];simp only[RU];rw[show 3-(4-(k+1))=k by omega]
      have wI:=ab el;have aiP:=ab Y4;have FJ:=ab ((uh aE).trans (ar.ofBelow (F:=[q]) cD));obtain⟨v5a,v5c,hv5⟩:=aC GQ;subst hv5;clear GQ cD Y4 hnw halC el;go_wp2_with fail
      refine(uh HAw).mono ?_;rintro e w6 ⟨rfl,BG,BI⟩;have acP:=ab ((uh aiP).after BI.blk BG);have HT6:=ab ((uh FJ).trans BI);have RH:=ab BG;clear BG BI;obtain⟨r6,hr6⟩:∃r6,r6=rV F T an m stz (fj l i k):=⟨_,rfl⟩;rw[<-hr6]at wI acP RH ⊢;clear hr6;obtain⟨b6,t6⟩:=r6;cases b6 with
      |true =>
       go_wp2_with fail
       go_roundw
       case rel=>exact⟨k+1,t6,by omega,by omega,by go_num,acP,ab ((uh wI).symm.trans (uh hz)),HT6⟩
       case measure=>simp[intOf];omega
      |false =>
       have qu:Hid (rV F T an (m+1) st l=(false,t6)):=ab (by rw[uh HZ,<-uh hz,uh wI]);go_wp2_with fail
       go_ret;rw[uh qu];exact⟨rfl,uh RH,uh HT6⟩
     .have hd:decide ((k:Int)<=3)=false:=(by simp;omega);have hk:k=4:=(by omega);subst hk;have qu:Hid (rV F T an (m+1) st l=(true,stz)):=ab (by rw[uh HZ,<-uh hz];rfl);go_wp2_with fail
      go_ret;rw[uh qu];exact⟨rfl,(uh jC).se.sq,uh aE⟩
theorem DH{F T:CF}{an:List (Option Nat)}(hR:Rm T)(hA:VL T)(pw:T.ow.length<=1000000):∀m,AlC F T an m:=by
 intro m;induction m with
 |zero=>intro w q f t fav fov tav tov st l lv _ h;omega
 |succ m ih=>exact AX hR hA pw ih
def rC(F T:CF):List Nat->List (Option Nat)->Option (List (Option Nat))
 |[],an=>some an
 |i::r,an=>if an.getD (T.cl.getD i 0) none≠none/\an.getD (T.cl.getD i 0) none≠some (F.cl.getD i 0) then none else rC F T r (an.set (T.cl.getD i 0) (some (F.cl.getD i 0)))
def Dc(al bl:List bC):Bool × Nat :=
 if dT (aG al) then (false,7)
 else match rC (aG al) (aG bl) [0,1,2,3,4] (replicate 24 none) with
  |none=>(false,0)
  |some an=>((rV (aG al) (aG bl) an ((aG al).ow.length+1) 262144 (aG al).ow).1,0)
def tm(a:bC):Pr:=⟨a.k,nj a.lk a.li,nj a.rk a.ri⟩
def gD(al:List bC):Prop:=∀a∈al,(tm a).l<13/\(tm a).r<13
theorem jN{f:Nat->Nat}{c:List Nat}{i:Nat}(h:i<c.length):(c.map f).getD i 0=f (c.getD i 0):=by simp[h]
theorem zy:∀(al:List bC) (c:List Nat),gD al->c.length=13->(∀i,i<13->c.getD i 0<13)->(al.foldl gQ c).length=13/\∀i,i<13->(al.foldl gQ c).getD i 0<13:=by
 intro al;induction al with
 |nil=>intro c _ h1 h2;exact⟨h1,h2⟩
 |cons a al ih =>
  intro c ht h1 h2;rw[foldl_cons];have vH:=ht a (by simp);have J2:gD al:=λb hb=>ht b (by simp[hb]);unfold gQ;split
  .refine ih _ J2 (by simpa using h1) (λi hi=>?_);rw[jN (by omega)];split
   .exact h2 _ vH.1
   .exact h2 i hi
  .exact ih _ J2 h1 h2
theorem Ue{s:Nat->Int}:∀(al:List bC) (c:List Nat),gD al->c.length=13->(∀i,i<13->s (c.getD i 0)=s i)->(∀a∈al,a.k=1->s (tm a).l=s (tm a).r)->∀i,i<13->s ((al.foldl gQ c).getD i 0)=s i:=by
 intro al;induction al with
 |nil=>intro c _ _ h _;exact h
 |cons a al ih =>
  intro c ht h1 h2 h3;rw[foldl_cons];have vH:=ht a (by simp);have J2:gD al:=λb hb=>ht b (by simp[hb]);have h3':∀b∈al,b.k=1->s (tm b).l=s (tm b).r:=λb hb=>h3 b (by simp[hb]);unfold gQ;split
  .rename_i hk;refine ih _ J2 (by simpa using h1) (λi hi=>?_) h3';rw[jN (by omega)];split
   .rename_i e;have g1:=h2 _ vH.1;have g2:=h2 _ vH.2;have g3:=h3 a (by simp) hk;have g4:=h2 i hi;rw[e]at g4;exact(g1.trans g3).trans (g2.symm.trans g4)
   .exact h2 i hi
  .exact ih _ J2 h1 h2 h3'
theorem O3{i j:Nat}(hi:i<13)(hj:j<13):∀(al:List bC) (c:List Nat),c.length=13->c.getD i 0=c.getD j 0->(al.foldl gQ c).getD i 0=(al.foldl gQ c).getD j 0:=by
 intro al;induction al with
 |nil=>intro c _ h;exact h
 |cons a al ih =>
  intro c h1 h2;rw[foldl_cons];unfold gQ;split
  .exact ih _ (by simpa using h1) (by rw[jN (by omega),jN (by omega),h2])
  .exact ih _ h1 h2
theorem Cq(c:List Nat)(a:bC):(gQ c a).length=c.length:=by unfold gQ;split <;> simp
theorem aam:∀(al:List bC) (c:List Nat),gD al->c.length=13->∀a∈al,a.k=1->(al.foldl gQ c).getD (tm a).l 0=(al.foldl gQ c).getD (tm a).r 0:=by
 intro al;induction al with
 |nil=>intro c _ _ a ha;cases ha
 |cons b al ih =>
  intro c ht h1 a ha hk;rw[foldl_cons];have J2:gD al:=λb hb=>ht b (by simp[hb]);rcases mem_cons.1 ha with rfl|ha
  .have vH:=ht a (by simp);refine O3 vH.1 vH.2 al _ (by rw[Cq];exact h1) ?_;unfold gQ;rw[if_pos hk,jN (by omega),jN (by omega)];rw[show nj a.rk a.ri=(tm a).r from rfl,show nj a.lk a.li=(tm a).l from rfl,if_pos rfl];split <;> rfl
  .exact ih _ J2 (by rw[Cq];exact h1) a ha hk
theorem s8(i:Nat)(h:i<13):(range 13).getD i 0=i:=by simp[h]
theorem zz{al:List bC}(ht:gD al):(jX al).length=13:=(zy al _ ht (by simp) (λi hi=>by rw[s8 i hi];exact hi)).1
theorem md{al:List bC}(ht:gD al){i:Nat}(hi:i<13):(jX al).getD i 0<13:=(zy al _ ht (by simp) (λi hi=>by rw[s8 i hi];exact hi)).2 i hi
theorem aan{s:Nat->Int}{al:List bC}(ht:gD al)(h:∀a∈al,a.k=1->s (tm a).l=s (tm a).r){i:Nat}(hi:i<13):s ((jX al).getD i 0)=s i:=Ue al _ ht (by simp) (λi hi=>by rw[s8 i hi]) h i hi
theorem rz{al:List bC}{i:Nat}(hi:i<5):(aG al).cl.getD i 0=(jX al).getD i 0:=by
 simp only[aG,getD_eq_getElem?_getD];rw[getElem?_take_of_lt hi]
theorem Bm:∀{ow:List Pr} {seen:List Nat},nX seen ow=true->∃i,i<ow.length/\((ow.getD i au).l∈seen\/∃j,j<i/\(ow.getD j au).l=(ow.getD i au).l):=by
 intro ow;induction ow with
 |nil=>intro seen h;cases h
 |cons p r ih =>
  intro seen h;simp only[nX]at h;by_cases hp:p.l∈seen
  .exact⟨0,by simp,zq0 (by simpa using hp)⟩
  .rw[if_neg hp]at h;obtain⟨i,hi,h1|⟨j,hj,h1⟩⟩:=ih h
   .rcases mem_cons.1 h1 with h1|h1
    .exact⟨i+1,by simp;omega,zq1 ⟨0,by omega,by simpa using h1.symm⟩⟩
    .exact⟨i+1,by simp;omega,zq0 (by simpa using h1)⟩
   .exact⟨i+1,by simp;omega,zq1 ⟨j+1,by omega,by simpa using h1⟩⟩
theorem Yo{ad nx:List Int}{val:Nat->Int}{V:CF}(h:XT ad nx val V)(hd:ad.Nodup)(hp:∀v∈ad,0<v):dT V=false:=by
 cases hf:dT V with
 |false=>rfl
 |true =>
  exfalso;unfold dT at hf;rw[Bool.or_eq_true]at hf;obtain⟨h1,h2⟩:=h.heads hd hp;rcases hf with hf|hf
  .obtain⟨p,hp,e⟩:=any_eq_true.1 hf;have:=h.ap p hp;rw[beq_iff_eq.1 e]at this;exact this rfl
  .obtain⟨i,hi,h3|⟨j,hj,h3⟩⟩:=Bm hf
   .simp only[mem_singleton]at h3;have:=h1 i hi;rw[h3,h.nl]at this;omega
   .exact h2 j i (by omega) hi (by omega) (by rw[h3])
theorem Bl{F T:CF}(hT:∀i,i<5->T.cl.getD i 0<24):∀{is:List Nat} {an an':List (Option Nat)},(∀i∈is,i<5)->an.length=24->rC F T is an=some an' ->
  an'.length=24/\(∀c a,an.getD c none=some a->an'.getD c none=some a)/\(∀i∈is,an'.getD (T.cl.getD i 0) none=some (F.cl.getD i 0))/\(∀c a,an'.getD c none=some a->an.getD c none=some a\/∃i∈is,a=F.cl.getD i 0):=by
 intro is;induction is with
 |nil=>intro an an' _ h h2;cases h2;exact⟨h,λ_ _ h=>h,λi hi=>(by cases hi),λc a h=>zq0 h⟩
 |cons i is ih =>
  intro an an' his h h2;simp only[rC]at h2;by_cases h0:an.getD (T.cl.getD i 0) none≠none/\an.getD (T.cl.getD i 0) none≠some (F.cl.getD i 0)
  .rw[if_pos h0]at h2;cases h2
  .rw[if_neg h0]at h2;obtain⟨g1,g2,g3,g4⟩:=ih (λj hj=>his j (by simp[hj])) (by simpa using h) h2;have cf:∀c,(an.set (T.cl.getD i 0) (some (F.cl.getD i 0))).getD c none=if T.cl.getD i 0=c then some (F.cl.getD i 0) else an.getD c none:=λc=>aU _ _ _ _ _ (by rw[h];exact hT i (his i (by simp)))
   refine⟨g1,λc a hc=>g2 c a ?_,λj hj=>?_,λc a hc=>?_⟩
   .rw[cf];by_cases e:T.cl.getD i 0=c
    .rw[if_pos e];subst e;by_cases e2:a=F.cl.getD i 0
     .rw[e2]
     .exact absurd ⟨by rw[hc];simp,by rw[hc];simpa using e2⟩ h0
    .rw[if_neg e];exact hc
   .rcases mem_cons.1 hj with rfl|hj
    .exact g2 _ _ (by rw[cf,if_pos rfl])
    .exact g3 j hj
   .rcases g4 c a hc with h5|⟨j,hj,h5⟩
    .rw[cf]at h5;by_cases e:T.cl.getD i 0=c
     .rw[if_pos e]at h5;cases h5;exact zq1 ⟨i,by simp,rfl⟩
     .rw[if_neg e]at h5;exact zq0 h5
    .exact zq1 ⟨j,by simp[hj],h5⟩
theorem agT{al:List bC}(ht:gD al):∀p∈(aG al).ow,p.l<13/\p.r<13:=by
 intro p hp;obtain⟨a,ha,rfl⟩:=mem_map.1 hp;have vH:=ht a (mem_filter.1 ha).1;exact⟨md ht vH.1,md ht vH.2⟩
theorem kP(k i:Nat)(hk:k<=2)(hi:i<=1000)(w:World):Calls prog 152 #[.agg #[.int .i64 k,.int .i64 i]] w λe w'=>e=.returned (.int .i64 (nj k i:Nat))/\Below w.heap.size w w':=by
 have BW:k=0\/k=1\/k=2:=by omega
 have hb:=(Below.refl w.heap.size w).alloc (zq4 _) (.cells #[Value.int .i64 k,.int .i64 i] 184);have HB:=ab hb;clear hb;rcases BW with rfl|rfl|rfl
 .go_enter func152,ntmps152;go_wp2_with fail
  go_ret;exact⟨rfl,uh HB⟩
 .go_enter func152,ntmps152;go_wp2_with fail
  go_ret;exact⟨bm (by unfold nj;rw[if_pos rfl];omega),uh HB⟩
 .go_enter func152,ntmps152;go_wp2_with fail
  go_ret;exact⟨bm (by unfold nj;rw[if_neg (by decide),if_pos rfl];omega),uh HB⟩
theorem X7{l:List bC}{k:Nat}(h:k<l.length):(aW l)[k*5]?=some (.int .i64 l[k].k)/\(aW l)[k*5+1]?=some (.int .i64 l[k].lk)/\(aW l)[k*5+2]?=some (.int .i64 l[k].li)/\(aW l)[k*5+3]?=some (.int .i64 l[k].rk)/\(aW l)[k*5+4]?=some (.int .i64 l[k].ri):=by
 induction l generalizing k with
 |nil=>simp at h
 |cons x l ih =>
  have hx:aW (x::l)=[Value.int .i64 x.k,.int .i64 x.lk,.int .i64 x.li,.int .i64 x.rk,.int .i64 x.ri]++aW l:=rfl;cases k with
  |zero=>rw[hx];simp
  |succ k =>
   have:=ih (k:=k) (by simpa using h);rw[hx,show(k+1)*5=k*5+5 by omega];simp only[getElem_cons_succ];refine⟨?_,?_,?_,?_,?_⟩
   .rw[getElem?_append_right (by simp)];simpa using this.1
   .rw[getElem?_append_right (by simp)];simpa[show k*5+5+1-5=k*5+1 by omega] using this.2.1
   .rw[getElem?_append_right (by simp)];simpa[show k*5+5+2-5=k*5+2 by omega] using this.2.2.1
   .rw[getElem?_append_right (by simp)];simpa[show k*5+5+3-5=k*5+3 by omega] using this.2.2.2.1
   .rw[getElem?_append_right (by simp)];simpa[show k*5+5+4-5=k*5+4 by omega] using this.2.2.2.2
theorem mx{w:World}{B:Nat}{v:Value}{l:List bC}(h:w.ownsRow B 239 5 v l.length (aW l)):
  ∃ao cap,v=.slice ao l.length cap/\cap<=9223372036854775807/\l.length<=cap/\(l≠[]->∃g,ao=some ⟨g,0,none⟩/\g<w.heap.size/\∀j,(h:j<l.length)->w.cell? ⟨g,j*5,none⟩=some (.int .i64 l[j].k)/\w.cell? ⟨g,j*5+1,none⟩=some (.int .i64 l[j].lk)/\w.cell? ⟨g,j*5+2,none⟩=some (.int .i64 l[j].li)/\w.cell? ⟨g,j*5+3,none⟩=some (.int .i64 l[j].rk)/\w.cell? ⟨g,j*5+4,none⟩=some (.int .i64 l[j].ri)):=by
 have hw:=h;rcases h.2 with⟨rfl,h0⟩|⟨g,cap,cur,rfl,_,_,hn,hm,_,_⟩
 .have:l=[]:=eq_nil_of_length_eq_zero h0;subst this;exact⟨_,_,rfl,by omega,by simp,λh=>absurd rfl h⟩
 .refine⟨_,_,rfl,by unfold maxLen at hm;omega,hn,λ_=>⟨g,rfl,(hw.lt g rfl).2,λj hj=>?_⟩⟩;have hg:=X7 hj;exact⟨(hw.cellAt _ (by omega)).trans hg.1,(hw.cellAt _ (by omega)).trans hg.2.1,(hw.cellAt _ (by omega)).trans hg.2.2.1,(hw.cellAt _ (by omega)).trans hg.2.2.2.1,(hw.cellAt _ (by omega)).trans hg.2.2.2.2⟩
def mG(l:List Nat):List Value:=l.map (λn:Nat=>Value.int .i64 (n:Int))
theorem cj(l:List Nat):(mG l).length=l.length:=by simp[mG]
theorem mH{l:List Nat}{j:Nat}(h:j<l.length):(mG l)[j]?=some (.int .i64 ((l.getD j 0:Nat):Int)):=by simp[mG,h]
theorem zA(l:List Nat)(j n:Nat):(mG l).set j (.int .i64 (n:Int))=mG (l.set j n):=by simp[mG,map_set]
def rgK(k:Nat):List Nat:=range k++replicate (13-k) 0
theorem UF{k:Nat}(h:k<13):(rgK k).set k k=rgK (k+1):=by
 unfold rgK;rw[set_append_right _ _ (by simp),length_range,Nat.sub_self,show 13-k=(13-(k+1))+1 by omega,replicate_succ,set_cons_zero,range_succ,append_assoc];rfl
def K5(f:Nat->Nat)(c:List Nat)(j:Nat):List Nat:=(c.map f).take j++c.drop j
theorem Uc(f:Nat->Nat)(c:List Nat)(j:Nat):(K5 f c j).length=c.length:=by
 unfold K5;rw[length_append,length_take,length_map,length_drop];omega
theorem O1(f:Nat->Nat){c:List Nat}{j:Nat}(h:j<c.length):(K5 f c j).getD j 0=c.getD j 0:=by
 unfold K5;have e:((c.map f).take j).length=j:=by rw[length_take,length_map];omega
 simp only[getD_eq_getElem?_getD];rw[getElem?_append_right (by omega),e,Nat.sub_self,getElem?_drop,Nat.add_zero]
theorem Hv(f:Nat->Nat){c:List Nat}{j:Nat}(h:j<c.length):(K5 f c j).set j (f (c.getD j 0))=K5 f c (j+1):=by
 unfold K5;have e:((c.map f).take j).length=j:=by rw[length_take,length_map];omega
 have hm:j<(c.map f).length:=by simpa using h
 rw[set_append_right _ _ (by omega),e,Nat.sub_self,drop_eq_getElem_cons h,set_cons_zero,take_succ_eq_append_getElem hm,append_assoc];simp[h]
theorem O2(f:Nat->Nat){c:List Nat}{j:Nat}(h:j<c.length)(hf:f (c.getD j 0)=c.getD j 0):K5 f c (j+1)=K5 f c j:=by
 rw[<-Hv f h,hf,<-O1 f h,j9]
theorem info13:(prog.info? 236).map (·.size)=some 13:=by kernel_rfl
theorem Kd{w:World}{B:Nat}{av:Value}{al:List bC}(h:w.ownsRow B 239 5 av al.length (aW al))(ht:gD al)(jC:al.length<=1000)(hb:∀a∈al,a.lk<=2/\a.rk<=2/\a.li<=100/\a.ri<=100):
  Calls prog 151 #[av] w λe w'=>e=.returned (.agg (mG (jX al)).toArray)/\Below w.heap.size w w':=by
 obtain⟨ao,cap,jO,kj,fQ,aw⟩:=mx h;have HC:=ab aw;rw[jO];clear h aw jO;go_enter func151,ntmps151;go_wp2_with fail
 obtain⟨w0,lm⟩:∃w0,w0=((w.alloc (Obj.cells #[Value.int IntKind.i64 0,Value.int IntKind.i64 0,Value.int IntKind.i64 0,Value.int IntKind.i64 0,Value.int IntKind.i64 0,Value.int IntKind.i64 0,Value.int IntKind.i64 0,Value.int IntKind.i64 0,Value.int IntKind.i64 0,Value.int IntKind.i64 0,Value.int IntKind.i64 0,Value.int IntKind.i64 0,Value.int IntKind.i64 0] 236)).alloc (Obj.cells #[Value.int IntKind.i64 0,Value.int IntKind.i64 0,Value.int IntKind.i64 0,Value.int IntKind.i64 0,Value.int IntKind.i64 0,Value.int IntKind.i64 0,Value.int IntKind.i64 0,Value.int IntKind.i64 0,Value.int IntKind.i64 0,Value.int IntKind.i64 0,Value.int IntKind.i64 0,Value.int IntKind.i64 0,Value.int IntKind.i64 0] 236)):=⟨_,rfl⟩;rw[<-lm];have Az:Ob w0 236 13 w.heap.size (mG (replicate 13 0)):=by
  rw[lm];exact Ob.alloc (ownsRow_lit (base:=0) (e:=236) (size:=13) w #[Value.int IntKind.i64 0,Value.int IntKind.i64 0,Value.int IntKind.i64 0,Value.int IntKind.i64 0,Value.int IntKind.i64 0,Value.int IntKind.i64 0,Value.int IntKind.i64 0,Value.int IntKind.i64 0,Value.int IntKind.i64 0,Value.int IntKind.i64 0,Value.int IntKind.i64 0,Value.int IntKind.i64 0,Value.int IntKind.i64 0] 1 (zq5 _) (by simp[maxLen]) rfl) _
 have hC0:Ob w0 236 13 (w.heap.size+1) (mG (rgK 0)):=by
  have h1:=ownsRow_lit (base:=0) (e:=236) (size:=13) (w.alloc (Obj.cells #[Value.int IntKind.i64 0,Value.int IntKind.i64 0,Value.int IntKind.i64 0,Value.int IntKind.i64 0,Value.int IntKind.i64 0,Value.int IntKind.i64 0,Value.int IntKind.i64 0,Value.int IntKind.i64 0,Value.int IntKind.i64 0,Value.int IntKind.i64 0,Value.int IntKind.i64 0,Value.int IntKind.i64 0,Value.int IntKind.i64 0] 236)) #[Value.int IntKind.i64 0,Value.int IntKind.i64 0,Value.int IntKind.i64 0,Value.int IntKind.i64 0,Value.int IntKind.i64 0,Value.int IntKind.i64 0,Value.int IntKind.i64 0,Value.int IntKind.i64 0,Value.int IntKind.i64 0,Value.int IntKind.i64 0,Value.int IntKind.i64 0,Value.int IntKind.i64 0,Value.int IntKind.i64 0] 1 (zq5 _) (by simp[maxLen]) rfl;have e:(w.alloc (Obj.cells #[Value.int IntKind.i64 0,Value.int IntKind.i64 0,Value.int IntKind.i64 0,Value.int IntKind.i64 0,Value.int IntKind.i64 0,Value.int IntKind.i64 0,Value.int IntKind.i64 0,Value.int IntKind.i64 0,Value.int IntKind.i64 0,Value.int IntKind.i64 0,Value.int IntKind.i64 0,Value.int IntKind.i64 0,Value.int IntKind.i64 0] 236)).heap.size=w.heap.size+1:=by simp
  rw[e]at h1;rw[lm];exact h1
 have hB0:Below w.heap.size w w0:=by rw[lm];exact((Below.refl _ _).alloc (zq4 _) _).alloc (by simp) _
 obtain⟨R,hR⟩:∃R,R=w.heap.size:=⟨_,rfl⟩;obtain⟨C,hC⟩:∃C,C=w.heap.size+1:=⟨_,rfl⟩;rw[<-hR]at Az;rw[<-hC]at hC0 ⊢;rw[<-hR];have hRC:R≠C:=by omega
 have YU:w.heap.size<=R:=by omega
 have hCB:w.heap.size<=C:=by omega
 clear lm hR hC;go_loopw [4] (λi wr=>∃k:Nat,k<=13/\i=.int .i64 k/\Hid (Ob wr 236 13 C (mG (rgK k)))/\Hid (Ob wr 236 13 R (mG (replicate 13 0)))/\Hid (Below w.heap.size w wr)) (λi _=>13-(intOf i).toNat)
 case atStart=>exact⟨0,zq5 _,rfl,ab hC0,ab Az,ab hB0⟩
 case round =>
  obtain⟨k,hk,rfl,Dd,xx,nz⟩:=hrel;by_cases aq:k<13
  .have hd:decide ((k:Int)<13)=true:=(by simp;omega);obtain⟨⟨u,hu⟩,hz⟩:=(uh Dd).some (j:=k) aq;have Nb:=(uh Dd).set k (.int .i64 (k:Int));rw[zA,UF aq]at Nb;have HC2:=ab Nb;have Ah:=ab ((uh xx).of_eq (w':=wr.setCell ⟨C,k,none⟩ (.int .i64 (k:Int))) (heap_setCell _ _ _ _ hRC));have cg:=ab ((uh nz).setCell (p:=⟨C,k,none⟩) hCB (.int .i64 (k:Int)));clear Nb;go_wp2_with fail
   go_roundw
   case rel=>exact⟨k+1,by omega,by go_num,HC2,Ah,cg⟩
   case measure=>simp[intOf];omega
  .have hd:decide ((k:Int)<13)=false:=(by simp;omega);have akW:k=13:=(by omega);subst akW;clear hC0 Az hB0;go_wp2_with fail
   go_loopg [19] al.length (λgn i wr=>∃k:Nat,k+gn=al.length/\i=.int .i64 k/\Hid (Ob wr 236 13 C (mG ((al.take k).foldl gQ (range 13))))/\Hid (Ob wr 236 13 R (mG (replicate 13 0)))/\Hid (Below w.heap.size w wr))
   case atStart=>exact⟨0,by omega,rfl,Dd,xx,nz⟩
   case round =>
    obtain⟨k,hk,rfl,Dd,xx,nz⟩:=hrel;by_cases aq:k<al.length
    .have jb:decide ((k:Int)<(al.length:Int))=true:=(by simp;omega);obtain⟨g,qo,k9,aw⟩:=uh HC (by intro h;rw[h]at aq;simp at aq);subst qo;obtain⟨x0,x1,x2,x3,x4⟩:=aw k aq;obtain⟨a,ha⟩:∃a,a=al[k]:=⟨_,rfl⟩;have vH:=ht _ (getElem_mem aq);have Di:=hb _ (getElem_mem aq);rw[<-ha]at x0 x1 x2 x3 x4 vH Di;have c0:=((uh nz).cell (block_lt_of_cell? w _ x0)).trans x0;have c1:=((uh nz).cell (block_lt_of_cell? w _ x1)).trans x1;have c2:=((uh nz).cell (block_lt_of_cell? w _ x2)).trans x2;have c3:=((uh nz).cell (block_lt_of_cell? w _ x3)).trans x3;have c4:=((uh nz).cell (block_lt_of_cell? w _ x4)).trans x4;clear aw x0 x1 x2 x3 x4;obtain⟨c,hc⟩:∃c,c=(al.take k).foldl gQ (range 13):=⟨_,rfl⟩;rw[<-hc]at Dd;have du:c.length=13:=by
      rw[hc];exact(zy (al.take k) _ (λb hb=>ht b (mem_of_mem_take hb)) (by simp) (λi hi=>by rw[s8 i hi];exact hi)).1
     have el:(al.take (k+1)).foldl gQ (range 13)=gQ c a:=by
      rw[take_succ_eq_append_getElem aq,foldl_append,<-hc,ha];rfl
     have cK:=ab el;have HCc:=ab hc;have HA:=ab ha
     -- behind the copy of the atom
     have Ei:=(uh nz).alloc (uh nz).size (.cells #[Value.int .i64 a.k,.int .i64 a.lk,.int .i64 a.li,.int .i64 a.rk,.int .i64 a.ri] 239);have Nb:=(uh Dd).alloc (.cells #[Value.int .i64 a.k,.int .i64 a.lk,.int .i64 a.li,.int .i64 a.rk,.int .i64 a.ri] 239);have hR2:=(uh xx).alloc (.cells #[Value.int .i64 a.k,.int .i64 a.lk,.int .i64 a.li,.int .i64 a.rk,.int .i64 a.ri] 239);have ik:=λj=>cell_of_row (wr.alloc (.cells #[Value.int .i64 a.k,.int .i64 a.lk,.int .i64 a.li,.int .i64 a.rk,.int .i64 a.ri] 239)) wr.heap.size j #[Value.int .i64 a.k,.int .i64 a.lk,.int .i64 a.li,.int .i64 a.rk,.int .i64 a.ri] 239 (0,0) (heap_alloc_new wr _);have n0:=ik 0;have n1:=ik 1;have n2:=ik 2;have n3:=ik 3;have n4:=ik 4;simp only[getElem?_toArray,getElem?_cons_zero,getElem?_cons_succ]at n0 n1 n2 n3 n4;have cg:=ab Ei;have HC2:=ab Nb;have Ah:=ab hR2;clear Ei Nb hR2 ik el hc ha Dd xx nz;by_cases KW:a.k=1
     .have aJ:((a.k:Int) != 1)=false:=(by simp;omega);have C3:=ab (kP a.lk a.li Di.1 (by omega) (wr.alloc (.cells #[Value.int .i64 a.k,.int .i64 a.lk,.int .i64 a.li,.int .i64 a.rk,.int .i64 a.ri] 239)));have HK1:=ab KW;clear KW;go_wp2_with fail
      refine(uh C3).mono ?_;rintro e w1 ⟨rfl,a7⟩;have Zt:nj a.lk a.li<13:=vH.1;have bI:nj a.rk a.ri<13:=vH.2;obtain⟨t1,wm⟩:∃t1,t1=nj a.lk a.li:=⟨_,rfl⟩;obtain⟨t2,J3⟩:∃t2,t2=nj a.rk a.ri:=⟨_,rfl⟩;rw[<-wm]at Zt ⊢;rw[<-J3]at bI;have hC3:=(uh HC2).of_eq (a7.block C (ownsRow.lt (uh HC2) _ rfl).2);have hR3:=(uh Ah).of_eq (a7.block R (ownsRow.lt (uh Ah) _ rfl).2);have SZ:Below w.heap.size w w1:=(uh cg).trans (a7.mono (uh cg).size);have d1:=(ownsRow.cellAt hC3 t1 (by omega)).trans (mH (l:=c) (by omega));have m3:=(a7.cell (block_lt_of_cell? _ _ n3)).trans n3;have m4:=(a7.cell (block_lt_of_cell? _ _ n4)).trans n4;obtain⟨kept,NZ⟩:∃kept,kept=c.getD t1 0:=⟨_,rfl⟩;rw[<-NZ]at d1;have C4:=ab (kP a.rk a.ri Di.2.1 (by omega) w1);have HC3:=ab hC3;have KI:=ab hR3;have oL:=ab SZ;have mW:=ab wm;have ku:=ab J3;have HKe:=ab NZ;clear hC3 hR3 SZ a7 wm NZ n0 n1 n2 n3 n4;go_wp2_with fail
      refine(uh C4).mono ?_;rintro e w2 ⟨rfl,aL⟩;rw[<-J3];have hC4:=(uh HC3).of_eq (aL.block C (ownsRow.lt (uh HC3) _ rfl).2);have hR4:=(uh KI).of_eq (aL.block R (ownsRow.lt (uh KI) _ rfl).2);have hB4:Below w.heap.size w w2:=(uh oL).trans (aL.mono (uh oL).size);have d2:=(ownsRow.cellAt hC4 t2 (by omega)).trans (mH (l:=c) (by omega));obtain⟨gone,GK⟩:∃gone,gone=c.getD t2 0:=⟨_,rfl⟩;rw[<-GK]at d2;have HC4:=ab hC4;have VC:=ab hR4;have qt:=ab hB4;have HGo:=ab GK;have HMr:Hid (gQ c a=c.map (λx=>if x=gone then kept else x)):=ab (by
       unfold gQ;rw[if_pos (uh HK1),<-uh mW,<-J3,<-GK,<-uh HKe])
      clear hC4 hR4 hB4 aL GK J3 d1;go_wp2_with fail
      go_loopw [9] (λi wr=>∃j:Nat,j<=13/\i=.int .i64 j/\Hid (Ob wr 236 13 C (mG (K5 (λx=>if x=gone then kept else x) c j)))/\Hid (Ob wr 236 13 R (mG (replicate 13 0)))/\Hid (Below w.heap.size w wr)) (λi _=>13-(intOf i).toNat)
      case atStart=>exact⟨0,zq5 _,rfl,HC4,VC,qt⟩
      case round =>
       obtain⟨j,hj,rfl,hC5,hR5,Aw⟩:=hrel;by_cases eu:j<13
       .have Wo:decide ((j:Int)<13)=true:=(by simp;omega);have hjc:j<c.length:=(by omega);have hcj:=(ownsRow.cellAt (uh hC5) j (by omega)).trans (mH (by rw[Uc];omega));rw[O1 _ hjc]at hcj;have hzj:=ownsRow.frozenAt (uh hC5) j;obtain⟨x,hx⟩:∃x,x=c.getD j 0:=⟨_,rfl⟩;rw[<-hx]at hcj;have XG:=ab (Hv (λx=>if x=gone then kept else x) hjc);have HKp:=ab (O2 (λx=>if x=gone then kept else x) hjc);rw[<-hx]at XG HKp;by_cases hxg:x=gone
        .have he:((x:Int)==(gone:Int))=true:=(by rw[bi];simpa using hxg);have hC6:=(uh hC5).set j (.int .i64 (kept:Int));have wg:=uh XG;rw[if_pos hxg]at wg;rw[zA,wg]at hC6;clear wg;have HC6:=ab hC6;have RG:=ab ((uh hR5).of_eq (w':=wr.setCell ⟨C,j,none⟩ (.int .i64 (kept:Int))) (heap_setCell _ _ _ _ hRC));have tt:=ab ((uh Aw).setCell (p:=⟨C,j,none⟩) hCB (.int .i64 (kept:Int)));clear hC6 hxg hx;go_wp2_with fail
         go_roundw
         case rel=>exact⟨j+1,by omega,by go_num,HC6,RG,tt⟩
         case measure=>simp[intOf];omega
        .have he:((x:Int)==(gone:Int))=false:=(by rw[bi];simpa using hxg);have Ce:=uh HKp (if_neg hxg);have HC6:=hC5;rw[<-Ce]at HC6;clear Ce hxg hx;go_wp2_with fail
         go_roundw
         case rel=>exact⟨j+1,by omega,by go_num,HC6,hR5,Aw⟩
         case measure=>simp[intOf];omega
       .have Wo:decide ((j:Int)<13)=false:=(by simp;omega);have akQ:j=13:=(by omega);subst akQ;have NI:K5 (λx=>if x=gone then kept else x) c 13=gQ c a:=by
         unfold K5;rw[uh HMr,drop_of_length_le (by omega),append_nil,take_of_length_le (by simp;omega)]
        rw[NI]at hC5;clear NI;go_wp2_with fail
        go_roundg (gk-1)
        case rel=>exact⟨k+1,by omega,by go_num,ab (by rw[uh cK];exact uh hC5),hR5,Aw⟩
        case measure=>omega
     .have aJ:((a.k:Int) != 1)=true:=(by rw[bne_iff_ne];omega);have HMr:Hid (gQ c a=c):=ab (by unfold gQ;rw[if_neg KW]);clear KW;go_wp2_with fail
      go_roundg (gk-1)
      case rel=>exact⟨k+1,by omega,by go_num,ab (by rw[uh cK,uh HMr];exact uh HC2),Ah,cg⟩
      case measure=>omega
    .have jb:decide ((k:Int)<(al.length:Int))=false:=(by simp;omega);have jf:k=al.length:=(by omega);subst jf;rw[take_length]at Dd;have dJ:(jX al).length=13:=zz ht;have Na:Ob wr 236 13 C (mG (jX al)):=uh Dd;have Ti:wr.rangeAt C 0 (mG (jX al)):=by
      intro j v hj;have eu:=(List.getElem?_eq_some_iff.1 hj).1;rw[cj,dJ]at eu;rw[Nat.zero_add,ownsRow.cellAt Na j (by omega)];exact hj
     have rZ:wr.there R 0 (mG (jX al)).toArray.size:=by
      intro j hj;rw[size_toArray,cj,dJ]at hj;obtain⟨⟨u,hu⟩,hz⟩:=(uh xx).some (j:=j) hj;rw[Nat.zero_add];exact⟨by rw[hu];rfl,hz⟩
     have df:(prog.info? 236).map (·.size)=some (mG (jX al)).length:=(by rw[cj,dJ];exact info13);have bP:(prog.info? 236).map (·.size)=some (mG (jX al)).toArray.size:=(by rw[size_toArray,cj,dJ];exact info13);have hO:(mG (jX al)).toArray.all (·.oneCell')=true:=all_oneCell_toArray (by
      intro v hv;obtain⟨o,_,rfl⟩:=mem_map.1 hv;rfl)
     have tZ:=Ob.setCells (mG (jX al)) 0 (uh xx);have Ot:=mn (mG (jX al)) [] (mG (replicate 13 0)) [] (by rw[cj,cj,dJ];rfl);simp only[nil_append,append_nil,length_nil]at Ot;rw[Ot]at tZ;have Aw:∀(vs:List Value) (o:Nat) (x:World),Below w.heap.size w x->Below w.heap.size w (x.setCells R o vs):=by
      intro vs;induction vs with
      |nil=>intro o x h;exact h
      |cons v r ih=>intro o x h;exact ih (o+1) _ (h.setCell YU v)
     have io:=ab (Aw (mG (jX al)) 0 wr (uh nz));obtain⟨M,hM⟩:∃M,M=mG (jX al):=⟨_,rfl⟩;rw[<-hM]at Ti rZ df bP hO tZ io;have HM:=ab hM;have HRg:=ab Ti;have sy:=ab rZ;have dD:=ab df;have dc:=ab bP;have HO:=ab hO;have I5:=ab tZ;clear Ti rZ df bP hO tZ Ot Aw hM Na Dd xx nz;go_wp2_with (first|refine wpList_load_mid rfl 236 (.tmp 3) rfl C 0 rfl M _ (uh HRg) underlying236 rfl (uh dD) ?_|refine wpList_store_mid rfl 236 (.tmp 2) (.tmp 49) rfl R 0 M.toArray rfl rfl (uh sy) (uh dc) (uh HO) ?_)
     have Oq:(wr.setCells R 0 M).rangeAt R 0 M:=by
      intro j v hj;have eu:=(List.getElem?_eq_some_iff.1 hj).1;rw[uh HM,cj,dJ]at eu;rw[Nat.zero_add,ownsRow.cellAt (uh I5) j (by omega)];exact hj
     have hld:=run_loadVar_mid (P:=prog) (wr.setCells R 0 M) R 0 236 M _ Oq underlying236 rfl (uh dD);refine bodyPost_ret (v:=.agg M.toArray) ?_ rfl ⟨by rw[uh HM],uh io⟩;simp[results,Tryz.results151,Act.put,asAddr,hld]
