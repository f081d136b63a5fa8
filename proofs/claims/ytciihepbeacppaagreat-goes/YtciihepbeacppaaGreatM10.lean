import Derived.Test.YtciihepbeacppaaGreatM09
set_option maxRecDepth 100000
set_option maxHeartbeats 0
namespace Go.Proofs.YtciihepbeacppaaGreat
open Tryz Go.RowKit List World Below
set_option linter.unusedVariables false
def dD(l:List (Int × Int)):List Value:=l.flatMap (λc=>[Value.int .i64 c.1,.int .i64 c.2])
theorem bX(l:List (Int × Int)):(dD l).length=l.length*2:=by
 induction l with
 |nil=>rfl
 |cons a l ih=>show([_,_]++dD l).length=_;rw[length_append,ih];simp;omega
theorem xX(a b:List (Int × Int)):dD (a++b)=dD a++dD b:=by simp[dD]
theorem sL{l:List (Int × Int)}{k:Nat}(h:k<l.length):(dD l)[k*2]?=some (.int .i64 l[k].1)/\(dD l)[k*2+1]?=some (.int .i64 l[k].2):=by
 induction l generalizing k with
 |nil=>simp at h
 |cons x l ih =>
  have hx:dD (x::l)=[Value.int .i64 x.1,.int .i64 x.2]++dD l:=rfl;cases k with
  |zero=>rw[hx];simp
  |succ k =>
   have:=ih (k:=k) (by simpa using h);rw[hx,show(k+1)*2=k*2+2 by omega];simp only[getElem_cons_succ];refine⟨?_,?_⟩
   .rw[getElem?_append_right (by simp)];simpa using this.1
   .rw[getElem?_append_right (by simp)];simpa[show k*2+2+1-2=k*2+1 by omega] using this.2
theorem gW{w:World}{B:Nat}{v:Value}{l:List (Int × Int)}(h:w.ownsRow B 231 2 v l.length (dD l)):
  ∃ao cap,v=.slice ao l.length cap/\cap<=9223372036854775807/\l.length<=cap/\(l≠[]->∃g,ao=some ⟨g,0,none⟩/\g<w.heap.size/\∀j,(h:j<l.length)->w.cell? ⟨g,j*2,none⟩=some (.int .i64 l[j].1)/\w.cell? ⟨g,j*2+1,none⟩=some (.int .i64 l[j].2)):=by
 have hw:=h;rcases h.2 with⟨rfl,h0⟩|⟨g,cap,cur,rfl,_,_,hn,hm,_,_⟩
 .have:l=[]:=eq_nil_of_length_eq_zero h0;subst this;exact⟨_,_,rfl,by omega,by simp,λh=>absurd rfl h⟩
 .refine⟨_,_,rfl,by unfold maxLen at hm;omega,hn,λ_=>⟨g,rfl,(hw.lt g rfl).2,λj hj=>?_⟩⟩;have hg:=sL hj;exact⟨(hw.cellAt _ (by omega)).trans hg.1,(hw.cellAt _ (by omega)).trans hg.2⟩
theorem mW{w:World}{X o:Nat}{v:Value}{l:List (Int × Int)}(a:Int)(hc:w.cell? ⟨X,o,none⟩=some v)(h:w.ownsRow 0 231 2 v l.length (dD l))(hs:ky l):
  Calls prog 144 #[.pointer (some ⟨X,o,none⟩),.int .i64 a] w λe w'=>e=.returned (.int .i64 (cQ l a:Nat))/\w'=w:=by
 obtain⟨ao,cap,rfl,hm,fs,aq⟩:=gW h;have HC:=ab aq;have HS:=ab hs;have iA:=yV l a;clear aq h hs;go_enter func144,ntmps144;go_wp2_with fail
 go_loop [5,6] (λlo hi=>∃p q:Nat,p<=cQ l a/\cQ l a<=q/\q<=l.length/\lo=.int .i64 p/\hi=.int .i64 q) (λlo hi=>(intOf hi).toNat-(intOf lo).toNat)
 case atStart=>exact⟨0,l.length,zq5 _,iA,zq4 _,rfl,rfl⟩
 case round =>
  obtain⟨p,q,hp,hq,Ji,rfl,rfl⟩:=hrel;by_cases ar:p<q
  .obtain⟨g,jm,gE,aq⟩:=uh HC (by intro h;rw[h]at Ji;simp at Ji;omega);subst jm;have dl:p+(q-p) / 2<l.length:=(by omega);have hx:=(aq _ dl).1;have D6:=lm (uh HS) a _ dl;generalize l[p+(q-p) / 2].1=y at hx D6;have HI:=ab D6;clear aq D6;by_cases hy:y<a
   .have hd:decide (y<a)=true:=(by simpa using hy);go_wp2_with fail
    go_round
    case rel =>
     have:=(uh HI).2 hy;exact⟨p+(q-p) / 2+1,q,by omega,hq,Ji,by go_num,rfl⟩
    case measure=>simp only[intOf];omega
   .have hd:decide (y<a)=false:=(by simpa using hy);go_wp2_with fail
    go_round
    case rel =>
     have:¬ _:=λh=>hy ((uh HI).1 h);exact⟨p,p+(q-p) / 2,hp,by omega,by omega,rfl,by go_num⟩
    case measure=>simp only[intOf];omega
  .have hd:decide ((p:Int)<(q:Int))=false:=(by simp;omega);have he:p=cQ l a:=(by omega);go_wp2_with fail
   go_ret;exact⟨rfl,rfl⟩
theorem AF{w:World}{X o:Nat}{v:Value}{l:List (Int × Int)}(hc:w.cell? ⟨X,o,none⟩=some v)(h:w.ownsRow 0 231 2 v l.length (dD l)):
  Calls prog 145 #[.pointer (some ⟨X,o,none⟩)] w λe w'=>e=.returned (.int .i64 (l.length:Nat))/\w'=w:=by
 obtain⟨ao,cap,rfl,hm,fs,aq⟩:=gW h;clear aq h;go_enter func145,ntmps145;go_wp2_with fail
 go_ret;exact⟨rfl,rfl⟩
def nR(l:List (Int × Int))(a:Int):Int:=match cq l a with|some i=>(i:Int)|none=>-1
theorem FT{l:List (Int × Int)}{a:Int}(h:cQ l a<l.length)(he:l[cQ l a].1=a):cq l a=some (cQ l a):=by unfold cq;rw[dif_pos h,if_pos he]
theorem L5{l:List (Int × Int)}{a:Int}(h:cQ l a<l.length)(he:l[cQ l a].1≠a):cq l a=none:=by unfold cq;rw[dif_pos h,if_neg he]
theorem RF{l:List (Int × Int)}{a:Int}(h:¬ cQ l a<l.length):cq l a=none:=by unfold cq;rw[dif_neg h]
theorem js{w:World}{X o:Nat}{v:Value}{l:List (Int × Int)}(a:Int)(hc:w.cell? ⟨X,o,none⟩=some v)(h:w.ownsRow 0 231 2 v l.length (dD l))(hs:ky l):
  Calls prog 149 #[.pointer (some ⟨X,o,none⟩),.int .i64 a] w λe w'=>e=.returned (.int .i64 (nR l a))/\w'=w:=by
 have HP:=ab (mW a hc h hs);obtain⟨ao,cap,rfl,hm,fs,aq⟩:=gW h;have HC:=ab aq;clear aq h hs;by_cases ar:cQ l a<l.length
 .obtain⟨g,jm,gE,aq⟩:=uh HC (by intro h;rw[h]at ar;simp at ar);subst jm;have hx:=(aq _ ar).1;obtain⟨y,hy⟩:∃y,y=l[cQ l a].1:=⟨_,rfl⟩;rw[<-hy]at hx;have HH:Hid (y=a->nR l a=(cQ l a:Nat)):=ab (λe=>by unfold nR;rw[FT ar (hy ▸ e)]);have HM:Hid (y≠a->nR l a=-1):=ab (λe=>by unfold nR;rw[L5 ar (hy ▸ e)]);clear aq HC hy;generalize cQ l a=i at *;by_cases he:y=a
  .have hd:(y==a)=true:=(by simpa using he);have HE:=ab he;clear he;go_enter func149,ntmps149;go_wp2_with (go_at_call 144;refine(uh HP).mono ?_;rintro e w' ⟨rfl,rfl⟩)
   go_ret;exact⟨aQ (uh HH (uh HE)).symm,rfl⟩
  .have hd:(y==a)=false:=(by simpa using he);have HE:=ab he;clear he;go_enter func149,ntmps149;go_wp2_with (go_at_call 144;refine(uh HP).mono ?_;rintro e w' ⟨rfl,rfl⟩)
   go_ret;exact⟨aQ (uh HM (uh HE)).symm,rfl⟩
 .have HH:Hid (nR l a=-1):=ab (by unfold nR;rw[RF ar]);clear HC;generalize cQ l a=i at *;have hd:decide ((i:Int)<(l.length:Int))=false:=by simp;omega
  go_enter func149,ntmps149;go_wp2_with (go_at_call 144;refine(uh HP).mono ?_;rintro e w' ⟨rfl,rfl⟩)
  go_ret;exact⟨aQ (uh HH).symm,rfl⟩
theorem infoIntQ:(prog.info? 3).map (λi=>(i.zero,i.size,i.bytes))=some (some (.int .i64 0),1,8):=by kernel_rfl
theorem af(w:World)(o:Obj):Below w.heap.size w (w.alloc o):=(Below.refl _ _).alloc (zq4 _) o
theorem xW{w:World}{X o:Nat}{v:Value}{l:List (Int × Int)}(i:Nat)(hi:i<l.length)(hc:w.cell? ⟨X,o,none⟩=some v)(h:w.ownsRow 0 231 2 v l.length (dD l)):
  Calls prog 150 #[.pointer (some ⟨X,o,none⟩),.int .i64 i] w λe w'=>e=.returned (.agg #[.int .i64 l[i].1,.int .i64 l[i].2])/\Below w.heap.size w w':=by
 obtain⟨ao,cap,rfl,hm,fs,aq⟩:=gW h;obtain⟨g,jm,gE,qQ⟩:=aq (by intro h;rw[h]at hi;simp at hi);subst jm;obtain⟨x1,x2⟩:=qQ i hi;generalize l[i].1=p1 at *;generalize l[i].2=p2 at *;have hb:=af w (.cells #[Value.int .i64 0,.int .i64 0] 231);have c0:=(hb.cell (block_lt_of_cell? w _ hc)).trans hc;have c1:=(hb.cell (block_lt_of_cell? w _ x1)).trans x1;have c2:=(hb.cell (block_lt_of_cell? w _ x2)).trans x2;have HB:=ab hb;clear aq qQ h hb;go_enter func150,ntmps150;go_wp2_with fail
 refine bodyPost_ret (v:=.agg #[.int .i64 p1,.int .i64 p2]) (by simp[results,Tryz.results150,go_sem]) rfl ⟨rfl,?_⟩;exact af _ _
def uV(l:List (Int × Int))(i:Nat)(n:Int):List (Int × Int):=l.set i ((l.getD i (0,0)).1,n)
theorem il(c:Int × Int)(l:List (Int × Int)):dD (c::l)=.int .i64 c.1::.int .i64 c.2::dD l:=rfl
theorem Xt{l:List (Int × Int)}{i:Nat}(n:Int)(hi:i<l.length):(dD l).set (i*2+1) (.int .i64 n)=dD (uV l i n):=by
 induction l generalizing i with
 |nil=>simp at hi
 |cons c l ih =>
  cases i with
  |zero=>rfl
  |succ i =>
   have kZ:i<l.length:=(by simpa using hi);have e:uV (c::l) (i+1) n=c::uV l i n:=(by simp[uV]);rw[e,il,il,show(i+1)*2+1=(i*2+1)+1+1 by omega,set_cons_succ,set_cons_succ,ih kZ]
theorem GM(l:List (Int × Int))(i:Nat)(n:Int):(uV l i n).length=l.length:=by simp[uV]
theorem It{w:World}{X o:Nat}{v:Value}{l:List (Int × Int)}(a n:Int)(hc:w.cell? ⟨X,o,none⟩=some v)(h:w.ownsRow 0 231 2 v l.length (dD l))(hs:ky l):
  Calls prog 109 #[.pointer (some ⟨X,o,none⟩),.int .i64 a,.int .i64 n] w λe w' =>
   (cq l a=none/\e=.returned (.bool false)/\w'=w) \/
   (∃i,cq l a=some i/\e=.returned (.bool true)/\w'.ownsRow 0 231 2 v l.length (dD (uV l i n))/\am v.ownBlock.toList w v.ownBlock.toList w'):=by
 have HF:=ab (js a hc h hs);have HR:=ab h;cases hf:cq l a with
 |none =>
  have e:nR l a=-1:=by unfold nR;rw[hf]
  rw[e]at HF;clear h hs hf e;go_enter func109,ntmps109;go_wp2_with (go_at_call 149;refine(uh HF).mono ?_;rintro e w' ⟨rfl,rfl⟩)
  go_ret;exact zq0 ⟨trivial,rfl,rfl⟩
 |some i =>
  have e:nR l a=(i:Int):=by unfold nR;rw[hf]
  rw[e]at HF;obtain⟨hi,-⟩:=ey hf;obtain⟨g,cap,rfl,fs,hm,gE⟩:=aS h (by omega);have x2:=(h.cellAt (i*2+1) (by omega)).trans (sL hi).2;have f2:=h.frozenAt (i*2+1);generalize l[i].2=p2 at *;clear h hs hf e;go_enter func109,ntmps109;go_wp2_with (go_at_call 149;refine(uh HF).mono ?_;rintro e w' ⟨rfl,rfl⟩)
  go_ret;refine zq1 ⟨i,rfl,rfl,?_,(am.refl _ _).setCell (zq0 (by simp[Value.ownBlock])) _⟩;rw[<-Xt n hi];exact((uh HR).stored (i*2+1) (.int .i64 n)).1
def Of(l:List (Int × Int))(k:Nat):List Value:=(dD l).take (2*k)++replicate (2*l.length-2*k) (.int .i64 0)
theorem TE{l:List (Int × Int)}{k:Nat}(h:k<=l.length):(Of l k).length=2*l.length:=by simp[Of,bX];omega
theorem Oh(l:List (Int × Int)):Of l 0=replicate (2*l.length) (.int .i64 0):=by simp[Of]
theorem TD(l:List (Int × Int)):Of l l.length=dD l:=by
 unfold Of;rw[take_of_length_le (by rw[bX];omega),Nat.sub_self];simp
theorem Og{l:List (Int × Int)}{k:Nat}(h:k<l.length):((Of l k).set (2*k) (.int .i64 l[k].1)).set (2*k+1) (.int .i64 l[k].2)=Of l (k+1):=by
 have hl:(List.take (2*k) (dD l)).length=2*k:=by simp[bX];omega
 have e1:(dD l).take (2*(k+1))=(dD l).take (2*k)++[.int .i64 l[k].1,.int .i64 l[k].2]:=by
  have g:=sL h;rw[show k*2=2*k by omega]at g;have h2:2*k<(dD l).length:=by rw[bX];omega
  have h3:2*k+1<(dD l).length:=by rw[bX];omega
  rw[show 2*(k+1)=2*k+1+1 by omega,take_succ_eq_append_getElem h3,take_succ_eq_append_getElem h2,append_assoc];rw[getElem?_eq_getElem h2,Option.some.injEq]at g;rw[getElem?_eq_getElem h3,Option.some.injEq]at g;rw[g.1,g.2];rfl
 unfold Of;rw[e1,set_append_right _ _ (by omega),set_append_right _ _ (by omega),hl,Nat.sub_self,show 2*k+1-2*k=1 by omega,
  show 2*l.length-2*k=(2*l.length-2*(k+1))+1+1 by omega,replicate_succ,replicate_succ]
 simp
theorem x9{w:World}{X o:Nat}{v:Value}{l:List (Int × Int)}(hc:w.cell? ⟨X,o,none⟩=some v)(h:w.ownsRow 0 231 2 v l.length (dD l))(hl:l.length<=100000):
  Calls prog 99 #[.pointer (some ⟨X,o,none⟩)] w λe w'=>∃g,e=.returned (.slice (some ⟨g,0,none⟩) (2*l.length) (2*l.length))/\w'.ownsRow w.heap.size 3 1 (.slice (some ⟨g,0,none⟩) (2*l.length) (2*l.length)) (2*l.length) (dD l)/\Below w.heap.size w w':=by
 obtain⟨i0,hi,dG,du,ef⟩:=info_parts (infoIntQ);obtain⟨ao,cap,rfl,hm,fs,aq⟩:=gW h;have HC:=ab aq;have pm:=block_lt_of_cell? w _ hc;clear aq h;go_enter func99,ntmps99;go_wp2_with (at_make;refine wpList_make_full _ rfl _ _ 29 rfl w.heap.size 3 i0 (.int .i64 0) 1 underlying29 hi dG du .i64 .i64 _ _ (2*l.length) ?a1 ?a2 rfl rfl ?b2 ?b3 ?b4 ?_)
 case b2=>omega
 case b3=>unfold maxLen;omega
 intro w1 cF bH;have aO:Below w.heap.size w w1:=(Below.refl _ _).grown bH (zq4 _) (λk h=>by cases h);have k7:w1.ownsRow w.heap.size 3 1 (.slice (some ⟨w.heap.size,0,none⟩) (2*l.length) (2*l.length)) (2*l.length) (Of l 0):=by
  rw[Oh];simpa[Value.cells,toList_madeCells_one] using cF
 have cY:=ab aO;have zK:=ab k7;clear cF bH aO k7;go_wp2_with fail
 go_loopw [4] (λi wr=>∃k:Nat,k<=l.length/\i=.int .i64 k/\Hid (wr.ownsRow w.heap.size 3 1 (.slice (some ⟨w.heap.size,0,none⟩) (2*l.length) (2*l.length)) (2*l.length) (Of l k))/\Hid (Below w.heap.size w wr)) (λi _=>l.length-(intOf i).toNat)
 case atStart=>exact⟨0,zq5 _,rfl,zK,cY⟩
 case round =>
  obtain⟨k,hk,rfl,aF,kq⟩:=hrel;have c0:=((uh kq).cell (p:=⟨X,o,none⟩) pm).trans hc;by_cases ar:k<l.length
  .have hd:decide ((k:Int)<(l.length:Int))=true:=(by simp;omega);obtain⟨g,jm,gE,aq⟩:=uh HC (by intro h;rw[h]at ar;simp at ar);subst jm;obtain⟨y1,y2⟩:=aq k ar;have x1:=((uh kq).cell (p:=⟨g,k*2,none⟩) gE).trans y1;have x2:=((uh kq).cell (p:=⟨g,k*2+1,none⟩) gE).trans y2;have bA:=ab (Og ar);have gz:=TE hk;have d1:∃u,wr.cell? ⟨w.heap.size,2*k,none⟩=some u:=by
    rw[(uh aF).cellAt (2*k) (by omega)];exact⟨_,getElem?_eq_getElem (by omega)⟩
   obtain⟨u1,d1⟩:=d1;have f1:=(uh aF).frozenAt (2*k);have d2:∃u,wr.cell? ⟨w.heap.size,2*k+1,none⟩=some u:=by
    rw[(uh aF).cellAt (2*k+1) (by omega)];exact⟨_,getElem?_eq_getElem (by omega)⟩
   obtain⟨u2,d2⟩:=d2;have f2:=(uh aF).frozenAt (2*k+1);generalize l[k].1=p1 at *;generalize l[k].2=p2 at *;have vZ:=ab (((uh aF).stored (2*k) (.int .i64 p1)).1.stored (2*k+1) (.int .i64 p2)).1;rw[uh bA]at vZ;have bu:=ab (((uh kq).setCell (p:=⟨w.heap.size,2*k,none⟩) (zq4 _) (.int .i64 p1)).setCell (p:=⟨w.heap.size,2*k+1,none⟩) (zq4 _) (.int .i64 p2));have hgn:g≠w.heap.size:=(by omega);have hXn:X≠w.heap.size:=(by omega);clear aq y1 y2 aF kq gz;go_wp2_with fail
   go_roundw
   case rel=>exact⟨k+1,by omega,by go_num,vZ,bu⟩
   case measure=>simp[intOf];omega
  .have hd:decide ((k:Int)<(l.length:Int))=false:=(by simp;omega);have gy:k=l.length:=(by omega);subst gy;rw[TD]at aF;go_wp2_with fail
   go_ret;exact⟨_,rfl,uh aF,uh kq⟩
section
variable {w:World} {A:Nat} {f:CF} {av ov:Value}
def Il(w:World)(f:CF)(A':Nat)(w':World):Prop:=∃av' ov',Fm w' A' f av' ov'/\(∀k∈aG A' av' ov',w.heap.size<=k)/\Below w.heap.size w w'
theorem GZ{w0:World}{e sz n:Nat}{v:Value}{xs:List Value}(h:w.ownsRow w0.heap.size e sz v n xs):∀k,v.ownBlock=some k->w0.heap.size<=k/\k<w.heap.size:=λk hk=>h.lt k hk
theorem cn(h:dm w A f av ov)(h5:f.cl.length=5)(ha:f.ap.length<=40000)(ho:f.ow.length<=40000):Calls prog 241 #[.pointer (some ⟨A,0,none⟩)] w λe w'=>∃A',e=.returned (.pointer (some ⟨A',0,none⟩))/\Il w f A' w':=by
 obtain⟨i0,iy,dG,du,ef⟩:=info_parts infoPair;have H:=ab h;have aT:=af w (.cells #[] 182);have c5:=(h.alloc (.cells #[] 182)).c5;have UY:=ab ((nB.of_own h.ap ha).below aT);have px:=ab (ownsRow_lit (base:=w.heap.size) (e:=182) (size:=3) w #[] 0 (zq4 _) (by simp[maxLen]) rfl);obtain⟨aa,ac,eS,-,-⟩:=ah h.ap;obtain⟨oa,oc,dB,-,-⟩:=ah h.ow;have HAV:=ab eS;have J4:=ab dB;rw[eS]at c5 UY;clear h aT eS dB;go_enter func241,ntmps241;go_wp2_with (at_builtin;refine lG rfl (.tmp 5) (.tmp 9) 177 rfl w.heap.size 182 i0 _ 3 24 underlying177 iy dG du ef rfl (by decide) _ 0 [] rfl (uh px) _ f.ap.length (aj f.ap) rfl (uh UY) (lx f.ap) (by omega) (by decide) (by simp) ?_)
 intro v1 w1 cF bH;have aO:Below w.heap.size w w1:=((Below.refl w.heap.size w).alloc (zq4 _) _).grown bH (by simp) (λk e=>by cases e;exact zq4 _);have h1:=(uh H).of_eq (w':=w1) (λk hk=>aO.block k ((uh H).lt k hk));have hb1x:=af w1 (.cells #[] 182);have c6:=(h1.alloc (.cells #[] 182)).c6;have HLo:=ab ((nB.of_own h1.ow ho).below hb1x);have zK:=ab (ownsRow_lit (base:=w1.heap.size) (e:=182) (size:=3) w1 #[] 0 (zq4 _) (by simp[maxLen]) rfl);rw[uh J4]at c6 HLo;obtain⟨a1,k1,rfl⟩:=bm cF;have QG:=ab cF;have cY:=ab aO;have H1:=ab h1;clear cF bH aO h1 hb1x c5 UY px;go_wp2_with (at_builtin;refine lG rfl (.tmp 11) (.tmp 15) 177 rfl w1.heap.size 182 i0 _ 3 24 underlying177 iy dG du ef rfl (by decide) _ 0 [] rfl (uh zK) _ f.ow.length (aj f.ow) rfl (uh HLo) (lx f.ow) (by omega) (by decide) (by simp) ?_)
 intro v2 w2 aZ aI;have ax:Below w1.heap.size w1 w2:=((Below.refl w1.heap.size w1).alloc (zq4 _) _).grown aI (by simp) (λk e=>by cases e;exact zq4 _);have h2:=(uh H1).of_eq (w':=w2) (λk hk=>ax.block k ((uh H1).lt k hk));obtain⟨a2,k2,rfl⟩:=bm aZ;have x0:=h2.cls (i:=0) (by omega);have x1:=h2.cls (i:=1) (by omega);have x2:=h2.cls (i:=2) (by omega);have x3:=h2.cls (i:=3) (by omega);have x4:=h2.cls (i:=4) (by omega);have hN:Il w f w2.heap.size (w2.alloc (.cells #[eR f 0,eR f 1,eR f 2,eR f 3,eR f 4,.slice a1 f.ap.length k1,.slice a2 f.ow.length k2] 179)):=by
  have Yv:=(uh cY).trans (ax.mono (uh cY).size);have r1:=b8 (uh QG) ax;have l1:=GZ (w0:=w) r1;have l1':=(uh QG).lt;have l2:=GZ (w0:=w1) aZ;have cN:=(uh cY).size;refine⟨.slice a1 f.ap.length k1,.slice a2 f.ow.length k2,⟨⟨?_,bW (r1.alloc _) (zq5 _),bW (aZ.alloc _) (zq5 _)⟩,nd3 (λe=>?_) (λe=>?_) (λk e1 e2=>?_),h5⟩,λk hk=>?_,Yv.alloc Yv.size _⟩
  .exact ownsRow_lit (base:=0) (e:=179) (size:=7) w2 #[eR f 0,eR f 1,eR f 2,eR f 3,eR f 4,.slice a1 f.ap.length k1,.slice a2 f.ow.length k2] 1 (zq5 _) (by simp[maxLen]) rfl
  .have:=(l1 _ (by simpa[Value.ownBlock] using e)).2;omega
  .have:=(l2 _ (by simpa[Value.ownBlock] using e)).2;omega
  .have h1:=(l1' k (by simpa[Value.ownBlock] using e1)).2;have h2:=(l2 k (by simpa[Value.ownBlock] using e2)).1;omega
  .simp only[aG,mem_cons,mem_append,Option.mem_toList]at hk;rcases hk with rfl|hk|hk
   .exact Yv.size
   .exact(l1 k (by simpa[Value.ownBlock] using hk)).1
   .have:=(l2 k (by simpa[Value.ownBlock] using hk)).1;omega
 have HN:=ab hN;unfold eR at x0 x1 x2 x3 x4 HN;obtain⟨y0,e0⟩:∃y,y=f.cl.getD 0 0:=⟨_,rfl⟩;obtain⟨y1,e1⟩:∃y,y=f.cl.getD 1 0:=⟨_,rfl⟩;obtain⟨y2,e2⟩:∃y,y=f.cl.getD 2 0:=⟨_,rfl⟩;obtain⟨y3,e3⟩:∃y,y=f.cl.getD 3 0:=⟨_,rfl⟩;obtain⟨y4,e4⟩:∃y,y=f.cl.getD 4 0:=⟨_,rfl⟩;rw[<-e0]at x0;rw[<-e1]at x1;rw[<-e2]at x2;rw[<-e3]at x3;rw[<-e4]at x4;rw[<-e0,<-e1,<-e2,<-e3,<-e4]at HN;clear e0 e1 e2 e3 e4 h5;clear aZ aI ax h2 hN c6;go_wp2_with fail
 go_ret;exact⟨_,rfl,uh HN⟩
end
def jb(kept gone c:Nat):Nat:=if c=gone then kept else c
def C1(kept gone:Nat)(p:Pr):Pr:=⟨p.k,jb kept gone p.l,jb kept gone p.r⟩
def rL(f:CF)(kept gone:Nat):CF:=⟨f.cl.map (jb kept gone),f.ap.map (C1 kept gone),f.ow.map (C1 kept gone)⟩
theorem gS{l:List Pr}{i:Nat}(hi:i<l.length)(c:Nat):(aj l).set (i*3+1) (.int .i64 (c:Int))=aj (l.set i ⟨(l.getD i az).k,c,(l.getD i az).r⟩):=by
 induction l generalizing i with
 |nil=>simp at hi
 |cons x l ih =>
  have hx:∀y:Pr,aj (y::l)=[Value.int .i64 y.k,.int .i64 y.l,.int .i64 y.r]++aj l:=λy=>rfl;cases i with
  |zero=>rw[hx,set_cons_zero,hx];rfl
  |succ i =>
   have h1:=ih (i:=i) (by simpa using hi);rw[hx,set_append_right _ _ (by simp;omega),set_cons_succ];show _=[Value.int .i64 x.k,.int .i64 x.l,.int .i64 x.r]++aj _;rw[show(i+1)*3+1 - [Value.int .i64 (x.k:Int),.int .i64 (x.l:Int),.int .i64 (x.r:Int)].length=i*3+1 by simp;omega,h1];rfl
def rb(kept gone:Nat)(l:List Pr)(k:Nat):List Pr:=(l.take k).map (C1 kept gone)++l.drop k
theorem TZ(kept gone:Nat)(l:List Pr)(k:Nat):(rb kept gone l k).length=l.length:=by simp[rb];omega
theorem TY{kept gone:Nat}{l:List Pr}{k:Nat}(hk:k<l.length):(rb kept gone l k).getD k az=l[k]:=by
 unfold rb;rw[getD_eq_getElem?_getD,getElem?_append_right (by simp;omega)];simp[hk,Nat.min_eq_left (Nat.le_of_lt hk)]
theorem OS{kept gone:Nat}{l:List Pr}{k:Nat}(hk:k<l.length):rb kept gone l (k+1)=(rb kept gone l k).set k (C1 kept gone l[k]):=by
 unfold rb;have e:l.drop k=l[k]::l.drop (k+1):=drop_eq_getElem_cons hk;have e2:(l.take (k+1)).map (C1 kept gone)=(l.take k).map (C1 kept gone)++[C1 kept gone l[k]]:=by
  rw[take_add_one,getElem?_eq_getElem hk,map_append];rfl
 have e3:((l.take k).map (C1 kept gone)).length=k:=by simp;omega
 rw[e2,e,set_append_right _ _ (by omega),e3,Nat.sub_self,set_cons_zero,append_assoc];rfl
section
variable {w:World} {v:Value} {l:List Pr}
theorem ub(h:w.ownsRow 0 182 3 v l.length (aj l))(hl:l.length<=100000)(kept gone:Nat):
  Calls prog 266 #[v,.int .i64 kept,.int .i64 gone] w λe w'=>e=.returned (.tuple #[])/\w'.ownsRow 0 182 3 v l.length (aj (l.map (C1 kept gone)))/\am v.ownBlock.toList w v.ownBlock.toList w':=by
 obtain⟨va,vc,hv,Jr,NE⟩:=ah h;subst hv;have px:Hid (w.ownsRow 0 182 3 (.slice va l.length vc) l.length (aj (rb kept gone l 0))/\am (Value.slice va l.length vc).ownBlock.toList w (Value.slice va l.length vc).ownBlock.toList w):=ab ⟨by simpa[rb] using h,am.refl _ _⟩;clear h;go_enter func266,ntmps266;go_wp2_with fail
 go_loopw [6] (λi wx=>∃(k:Nat),k<=l.length/\i=.int .i64 k/\Hid (wx.ownsRow 0 182 3 (.slice va l.length vc) l.length (aj (rb kept gone l k))/\am (Value.slice va l.length vc).ownBlock.toList w (Value.slice va l.length vc).ownBlock.toList wx)) (λi _=>l.length-(intOf i).toNat)
 case atStart=>exact⟨0,zq5 _,rfl,px⟩
 case round =>
  clear px;obtain⟨k,hk,rfl,hI⟩:=hrel;by_cases ar:k<l.length
  .have hd:decide ((k:Int)<(l.length:Int))=true:=(by simp;omega);obtain⟨g,cap,cM,-,-,-⟩:=aS (uh hI).1 (by omega);simp only[Value.slice.injEq,true_and]at cM;obtain⟨rfl,rfl⟩:=cM;obtain⟨p,hp⟩:∃p,p=l[k]:=⟨_,rfl⟩;have hK:=TY (kept:=kept) (gone:=gone) ar;have hr:=(uh hI).1;have dg:=TZ kept gone l k;have Jj:wr.ownsRow 0 182 3 (.slice (some ⟨g,0,none⟩) (rb kept gone l k).length vc) (rb kept gone l k).length (aj (rb kept gone l k)):=(by rw[dg];exact hr);obtain⟨-,x1,x2⟩:=aA Jj (i:=k) (by omega);rw[hK,<-hp]at x1 x2;have f1:=hr.frozenAt (k*3+1);have f2:=hr.frozenAt (k*3+2);have i1:(0:Int)<=(k:Int):=(by omega);have i2:(k:Int)<(l.length:Int):=by omega
   -- what the two stores leave
   have cN:∀c:Nat,(wr.setCell ⟨g,k*3+1,none⟩ (.int .i64 (c:Int))).ownsRow 0 182 3 (.slice (some ⟨g,0,none⟩) l.length vc) l.length (aj ((rb kept gone l k).set k ⟨p.k,c,p.r⟩)):=λc=>by
    have:=(hr.stored (k*3+1) (.int .i64 (c:Int))).1;rw[gS (by omega),hK,<-hp]at this;exact this
   have ce:∀(w2:World) (c d:Nat),w2.ownsRow 0 182 3 (.slice (some ⟨g,0,none⟩) l.length vc) l.length (aj ((rb kept gone l k).set k ⟨p.k,c,p.r⟩))->(w2.setCell ⟨g,k*3+2,none⟩ (.int .i64 (d:Int))).ownsRow 0 182 3 (.slice (some ⟨g,0,none⟩) l.length vc) l.length (aj ((rb kept gone l k).set k ⟨p.k,c,d⟩)):=λw2 c d hw=>by
    have:=(hw.stored (k*3+2) (.int .i64 (d:Int))).1;rw[ej (by simp;omega)]at this;simpa[dg,ar] using this
   have Gs:wr.ownsRow 0 182 3 (.slice (some ⟨g,0,none⟩) l.length vc) l.length (aj ((rb kept gone l k).set k ⟨p.k,p.l,p.r⟩)):=by
    have e:(rb kept gone l k).set k ⟨p.k,p.l,p.r⟩=rb kept gone l k:=by
     have:(⟨p.k,p.l,p.r⟩:Pr)=(rb kept gone l k)[k]'(by omega):=by
      have h2:=iI (l:=rb kept gone l k) (k:=k) (by omega);rw[<-h2,hK,<-hp]
     rw[this,set_getElem_self]
    rw[e];exact hr
   have qe:=ab Gs;have bC:=ab cN;have bz:=ab ce;have bA:=ab (uh hI).2;have nz:Hid (rb kept gone l (k+1)=(rb kept gone l k).set k ⟨p.k,jb kept gone p.l,jb kept gone p.r⟩):=ab (by rw[OS ar,<-hp];rfl);clear hr Jj hK dg hp Gs cN ce hI;have y2:∀c:Nat,(wr.setCell ⟨g,k*3+1,none⟩ (.int .i64 (c:Int))).cell? ⟨g,k*3+2,none⟩=some (.int .i64 (p.r:Int)):=λc=>by
    rw[cell?_setCell_other _ _ _ _ (by simp)];exact x2
   have z2:∀c:Nat,(wr.setCell ⟨g,k*3+1,none⟩ (.int .i64 (c:Int))).frozen? ⟨g,k*3+2,none⟩=false:=λc=>(uh bC c).frozenAt (k*3+2);by_cases e1:p.l=gone
   .by_cases e2:p.r=gone
    .have b1:((p.l:Int)==(gone:Int))=true:=(by simp[e1]);have b2:((p.r:Int)==(gone:Int))=true:=(by simp[e2]);have HE:Hid (jb kept gone p.l=kept/\jb kept gone p.r=kept):=ab ⟨if_pos e1,if_pos e2⟩;clear e1 e2;go_wp2_with fail
     go_roundw
     case rel=>exact⟨k+1,by omega,by go_num,ab ⟨by rw[uh nz,(uh HE).1,(uh HE).2];exact uh bz _ kept kept (uh bC kept),((uh bA).setCell (p:=⟨g,k*3+1,none⟩) (zq0 (by simp[Value.ownBlock])) _).setCell (p:=⟨g,k*3+2,none⟩) (zq0 (by simp[Value.ownBlock])) _⟩⟩
     case measure=>simp[intOf];omega
    .have b1:((p.l:Int)==(gone:Int))=true:=(by simp[e1]);have b2:((p.r:Int)==(gone:Int))=false:=(by simp;omega);have HE:Hid (jb kept gone p.l=kept/\jb kept gone p.r=p.r):=ab ⟨if_pos e1,if_neg e2⟩;clear e1 e2;go_wp2_with fail
     go_roundw
     case rel=>exact⟨k+1,by omega,by go_num,ab ⟨by rw[uh nz,(uh HE).1,(uh HE).2];exact uh bC kept,(uh bA).setCell (p:=⟨g,k*3+1,none⟩) (zq0 (by simp[Value.ownBlock])) _⟩⟩
     case measure=>simp[intOf];omega
   .by_cases e2:p.r=gone
    .have b1:((p.l:Int)==(gone:Int))=false:=(by simp;omega);have b2:((p.r:Int)==(gone:Int))=true:=(by simp[e2]);have HE:Hid (jb kept gone p.l=p.l/\jb kept gone p.r=kept):=ab ⟨if_neg e1,if_pos e2⟩;clear e1 e2;go_wp2_with fail
     go_roundw
     case rel=>exact⟨k+1,by omega,by go_num,ab ⟨by rw[uh nz,(uh HE).1,(uh HE).2];exact uh bz _ p.l kept (uh qe),(uh bA).setCell (p:=⟨g,k*3+2,none⟩) (zq0 (by simp[Value.ownBlock])) _⟩⟩
     case measure=>simp[intOf];omega
    .have b1:((p.l:Int)==(gone:Int))=false:=(by simp;omega);have b2:((p.r:Int)==(gone:Int))=false:=(by simp;omega);have HE:Hid (jb kept gone p.l=p.l/\jb kept gone p.r=p.r):=ab ⟨if_neg e1,if_neg e2⟩;clear e1 e2;go_wp2_with fail
     go_roundw
     case rel=>exact⟨k+1,by omega,by go_num,ab ⟨by rw[uh nz,(uh HE).1,(uh HE).2];exact uh qe,uh bA⟩⟩
     case measure=>simp[intOf];omega
  .have hd:decide ((k:Int)<(l.length:Int))=false:=(by simp;omega);have HE:Hid (rb kept gone l k=l.map (C1 kept gone)):=ab (by unfold rb;rw[take_of_length_le (by omega),drop_eq_nil_of_le (by omega),append_nil]);go_wp2_with fail
   go_end0
   exact⟨rfl,by rw[<-uh HE];exact(uh hI).1,(uh hI).2⟩
end
def AD(kept gone:Nat)(c:List Nat)(k:Nat):List Nat:=(c.take k).map (jb kept gone)++c.drop k
theorem Lk{kept gone:Nat}{c:List Nat}{k:Nat}(hk:k<c.length):AD kept gone c (k+1)=(AD kept gone c k).set k (jb kept gone (c.getD k 0))/\(AD kept gone c k).getD k 0=c.getD k 0:=by
 unfold AD;have e:c.drop k=c[k]::c.drop (k+1):=drop_eq_getElem_cons hk;have e0:c.getD k 0=c[k]:=by simp[hk]
 have e2:(c.take (k+1)).map (jb kept gone)=(c.take k).map (jb kept gone)++[jb kept gone c[k]]:=by
  rw[take_add_one,getElem?_eq_getElem hk,map_append];rfl
 have e3:((c.take k).map (jb kept gone)).length=k:=by simp;omega
 refine⟨?_,?_⟩
 .rw[e2,e,set_append_right _ _ (by omega),e3,Nat.sub_self,set_cons_zero,append_assoc,e0];rfl
 .rw[getD_eq_getElem?_getD,getElem?_append_right (by omega),e3,Nat.sub_self,e,e0];rfl
theorem Rf(kept gone:Nat)(c:List Nat)(k:Nat):(AD kept gone c k).length=c.length:=by simp[AD];omega
theorem O0{l:List Nat}{k c:Nat}(hk:k<l.length)(h:l.getD k 0=c):l.set k c=l:=by
 have:c=l[k]:=by rw[<-h];simp[hk]
 rw[this,set_getElem_self]
section
variable {w w':World} {A:Nat} {f:CF} {av ov:Value}
theorem Fm.newRow(h:Fm w A f av ov){ow':List Pr}(hl:ow'.length=f.ow.length)(hr:w'.ownsRow 0 182 3 ov f.ow.length (aj ow'))(hs:am ov.ownBlock.toList w ov.ownBlock.toList w'):Fm w' A { f with ow:=ow' } av ov/\am (aG A av ov) w (aG A av ov) w':=by
 obtain⟨n1,n2,n3⟩:=h.nds;refine⟨⟨⟨h.is.ob.of_eq (hs.block A (h.lt A (by simp[aG])) (by simpa using n2)),ae h.is.ap (λk hk=>hs.block k (h.lt k (by simp[aG,hk])) (by simpa using n3 k hk)),?_⟩,h.nd,h.c5⟩,hs.wide (λk hk=>by simp only[aG,mem_cons,mem_append];exact zq1 (zq1 hk))⟩;show w'.ownsRow 0 _ 3 ov ow'.length (aj ow');rw[hl];exact hr
theorem Fm.newRowA(h:Fm w A f av ov){ap':List Pr}(hl:ap'.length=f.ap.length)(hr:w'.ownsRow 0 182 3 av f.ap.length (aj ap'))(hs:am av.ownBlock.toList w av.ownBlock.toList w'):Fm w' A { f with ap:=ap' } av ov/\am (aG A av ov) w (aG A av ov) w':=by
 obtain⟨n1,n2,n3⟩:=h.nds;refine⟨⟨⟨h.is.ob.of_eq (hs.block A (h.lt A (by simp[aG])) (by simpa using n1)),?_,ae h.is.ow (λk hk=>hs.block k (h.lt k (by simp[aG,hk])) (by simpa using λe=>n3 k e hk))⟩,h.nd,h.c5⟩,hs.wide (λk hk=>by simp only[aG,mem_cons,mem_append];exact zq1 (zq0 hk))⟩;show w'.ownsRow 0 _ 3 av ap'.length (aj ap');rw[hl];exact hr
theorem wF(h:Fm w A f av ov)(ha:f.ap.length<=100000)(ho:f.ow.length<=100000)(kept gone:Nat):Calls prog 260 #[.pointer (some ⟨A,0,none⟩),.int .i64 kept,.int .i64 gone] w λe w'=>e=.returned (.tuple #[])/\Fm w' A (rL f kept gone) av ov/\am (aG A av ov) w (aG A av ov) w':=by
 have H5:=ab h.c5;have bR:Hid (Fm w A { f with cl:=AD kept gone f.cl 0 } av ov/\am (aG A av ov) w (aG A av ov) w):=ab ⟨by simpa[AD] using h,am.refl _ _⟩;clear h;go_enter func260,ntmps260;go_wp2_with fail
 go_loopw [6] (λi wx=>∃(k:Nat),k<=5/\i=.int .i64 k/\Hid (Fm wx A { f with cl:=AD kept gone f.cl k } av ov/\am (aG A av ov) w (aG A av ov) wx)) (λi _=>5-(intOf i).toNat)
 case atStart=>exact⟨0,zq5 _,rfl,bR⟩
 case round =>
  clear bR;obtain⟨k,hk,rfl,hI⟩:=hrel;by_cases ar:k<5
  .have hd:decide ((k:Int)<(5:Int))=true:=(by simp;omega);have aE:=Lk (kept:=kept) (gone:=gone) (c:=f.cl) (k:=k) (by have:=uh H5;omega);obtain⟨c,hc⟩:∃c,c=f.cl.getD k 0:=⟨_,rfl⟩;have x:wr.cell? ⟨A,k,none⟩=some (.int .i64 (c:Int)):=by
    have:=(uh hI).1.is.cls ar;unfold eR at this;rw[this];show some (Value.int .i64 (((AD kept gone f.cl k).getD k 0:Nat):Int))=_;rw[aE.2,<-hc]
   have fz:wr.frozen? ⟨A,k,none⟩=false:=ownsRow.frozenAt (uh hI).1.is.ob k;have bA:Hid (AD kept gone f.cl (k+1)=(AD kept gone f.cl k).set k (jb kept gone c)):=ab (by rw[aE.1,<-hc]);have i1:(0:Int)<=(k:Int):=(by omega);have i2:(k:Int)<(5:Int):=(by omega);have HG:Hid ((AD kept gone f.cl k).getD k 0=c):=ab (by rw[aE.2,<-hc]);clear aE hc;by_cases e1:c=gone
   .have b1:((c:Int)==(gone:Int))=true:=(by simp[e1]);have HE:Hid (jb kept gone c=kept):=ab (if_pos e1);clear e1;go_wp2_with fail
    go_roundw
    case rel=>exact⟨k+1,by omega,by go_num,ab ⟨by rw[uh bA,uh HE];exact(uh hI).1.setCl k kept ar,(uh hI).2.setCell (p:=⟨A,k,none⟩) (zq0 (by simp[aG])) _⟩⟩
    case measure=>simp[intOf];omega
   .have b1:((c:Int)==(gone:Int))=false:=(by simp;omega);have HE:Hid (AD kept gone f.cl (k+1)=AD kept gone f.cl k):=ab (by
     rw[uh bA,show jb kept gone c=c from if_neg e1];exact O0 (by rw[Rf];have:=uh H5;omega) (uh HG))
    clear e1;go_wp2_with fail
    go_roundw
    case rel=>exact⟨k+1,by omega,by go_num,ab ⟨by rw[uh HE];exact(uh hI).1,(uh hI).2⟩⟩
    case measure=>simp[intOf];omega
  .have hd:decide ((k:Int)<(5:Int))=false:=(by simp;omega);have de:AD kept gone f.cl k=f.cl.map (jb kept gone):=by
    have:=uh H5;unfold AD;rw[take_of_length_le (by omega),drop_eq_nil_of_le (by omega),append_nil]
   have hF:=(uh hI).1;rw[de]at hF;have bA:=ab (uh hI).2;have c5:=hF.is.c5;have HRA:=ab (ub hF.is.ap ha kept gone);have HF:=ab hF;clear hF de hI;obtain⟨aa,ac,eS,-,-⟩:=ah (uh HF).is.ap;obtain⟨oa,oc,dB,-,-⟩:=ah (uh HF).is.ow;subst eS;subst dB;go_wp2_with fail
   refine(uh HRA).mono ?_;rintro e w1 ⟨rfl,k7,cN⟩;have iT:=(uh HF).newRowA (ap':=f.ap.map (C1 kept gone)) (by simp) k7 cN;have c6:=iT.1.is.c6;have HRO:=ab (ub iT.1.is.ow ho kept gone);have Cz:=ab iT;clear k7 cN iT HRA c5;go_wp2_with fail
   refine(uh HRO).mono ?_;rintro e w2 ⟨rfl,fH,ce⟩;have mE:=(uh Cz).1.newRow (ow':=f.ow.map (C1 kept gone)) (by simp) fH ce;have se:=ab mE;clear fH ce mE HRO c6;go_wp2_with fail
   go_end0
   exact⟨rfl,(uh se).1,((uh bA).trans (uh Cz).2).trans (uh se).2⟩
end
def oU(l:List Pr)(i k:Nat):List Pr:=((range k).filter (λj=>j != i)).map (λj=>l.getD j az)
def qD(l:List Pr)(i:Nat):List Pr:=oU l i l.length
theorem ux(l:List Pr)(i k:Nat):oU l i (k+1)=oU l i k++(if k=i then [] else [l.getD k az]):=by
 unfold oU;rw[range_succ,filter_append,map_append];congr 1;by_cases h:k=i <;> simp[h]
theorem Ut(l:List Pr)(i k:Nat):(oU l i k).length<=k:=by
 unfold oU;rw[length_map];exact zq3 (length_filter_le _ _) (by simp)
section
variable {w:World} {A:Nat} {f:CF} {av ov:Value}
theorem wJ(h:Fm w A f av ov)(ho:f.ow.length<=100000)(i:Nat):Calls prog 251 #[.pointer (some ⟨A,0,none⟩),.int .i64 i] w λe w'=>e=.returned (.tuple #[])/\∃ov',Fm w' A { f with ow:=qD f.ow i } av ov'/\am (aG A av ov) w (aG A av ov') w':=by
 obtain⟨i0,iy,dG,du,ef⟩:=info_parts infoPair;obtain⟨oa,oc,dB,-,-⟩:=ah h.is.ow;subst dB;have H:=ab h;have px:Hid ((w.alloc (.cells #[] 182)).ownsRow w.heap.size 182 3 (.slice (some ⟨w.heap.size,0,none⟩) 0 0) 0 []/\Below w.heap.size w (w.alloc (.cells #[] 182))):=ab ⟨ownsRow_lit (base:=w.heap.size) (e:=182) (size:=3) w #[] 0 (zq4 _) (by simp[maxLen]) rfl,af w _⟩;clear h;go_enter func251,ntmps251;go_wp2_with fail
 go_loopw [4,5] (λrv j wx=>∃(k:Nat),k<=f.ow.length/\j=.int .i64 k/\Hid (wx.ownsRow w.heap.size 182 3 rv (oU f.ow i k).length (aj (oU f.ow i k))/\Below w.heap.size w wx)) (λ_ j _=>f.ow.length-(intOf j).toNat)
 case atStart=>exact⟨0,zq5 _,rfl,px⟩
 case round =>
  clear px;obtain⟨k,hk,rfl,hI⟩:=hrel;have hF:=(uh H).below (uh hI).2;have c6:=hF.is.c6;obtain⟨ra,rc,Kn,-,-⟩:=ah (uh hI).1;subst Kn;by_cases ar:k<f.ow.length
  .have hd:decide ((k:Int)<(f.ow.length:Int))=true:=(by simp;omega);by_cases hki:k=i
   .have b1:((k:Int) != (i:Int))=false:=(by simp[hki]);have HE:Hid (oU f.ow i (k+1)=oU f.ow i k):=ab (by rw[ux,if_pos hki,append_nil]);clear hki hF;go_wp2_with fail
    go_roundw
    case rel=>exact⟨k+1,by omega,by go_num,ab (by rw[uh HE];exact uh hI)⟩
    case measure=>simp[intOf];omega
   .have b1:((k:Int) != (i:Int))=true:=(by rw[bne_iff_ne];omega);obtain⟨p,hp⟩:∃p,p=f.ow.getD k az:=⟨_,rfl⟩;have HE:Hid (oU f.ow i (k+1)=oU f.ow i k++[p]):=ab (by rw[ux,if_neg hki,<-hp]);obtain⟨g,cap,cM,-,-⟩:=aC hF.is.ow ar;simp only[Value.slice.injEq,true_and]at cM;obtain⟨rfl,rfl⟩:=cM;obtain⟨x0,x1,x2⟩:=aA hF.is.ow ar;rw[<-hp]at x0 x1 x2;have ii:=ab (uh hI).1;have dg:=Ut f.ow i k;have MU:=(uh hI).2.size;have i1:(0:Int)<=(k:Int):=(by omega);have i2:(k:Int)<(f.ow.length:Int):=(by omega);obtain⟨L,hL⟩:∃L,L=oU f.ow i k:=⟨_,rfl⟩;rw[<-hL]at HE ii dg hI ⊢;clear hki hF hp hL;go_wp2_with (at_builtin;refine aK _ rfl (.tmp 19) (.tmp 27) 177 rfl w.heap.size 182 i0 _ 3 24 underlying177 iy dG du ef rfl (by decide) _ L.length (aj L) rfl ((uh ii).alloc _) ⟨_,0,none⟩ 1 [.int .i64 (p.k:Int),.int .i64 (p.l:Int),.int .i64 (p.r:Int)] rfl rfl (aJ _ _ (by simp) [.int .i64 (p.k:Int),.int .i64 (p.l:Int),.int .i64 (p.r:Int)] _) (oJ p) (by omega) (by omega) (by simp;omega) ?_)
    intro g4 cap4 w4 dO bU gi;have HN:Hid (w4.ownsRow w.heap.size 182 3 (.slice (some ⟨g4,0,none⟩) (L.length+1) cap4) (oU f.ow i (k+1)).length (aj (oU f.ow i (k+1)))/\Below w.heap.size w w4):=ab (by
     rw[uh HE,length_append,length_singleton,ec];refine⟨dO,?_⟩;have hb:=(uh hI).2.alloc MU (.cells #[.int .i64 (p.k:Int),.int .i64 (p.l:Int),.int .i64 (p.r:Int)] 182);exact hb.grown bU hb.size (λk hk=>((uh ii).lt k hk).1))
    clear dO bU gi;go_wp2_with fail
    go_roundw
    case rel=>exact⟨k+1,by omega,by go_num,HN⟩
    case measure=>simp[intOf];omega
  .have hd:decide ((k:Int)<(f.ow.length:Int))=false:=(by simp;omega);have iz:k=f.ow.length:=(by omega);have hs:am (Value.slice oa f.ow.length oc).ownBlock.toList w (Value.slice ra (oU f.ow i k).length rc).ownBlock.toList wr:=(am.ofBw (F:=(Value.slice oa f.ow.length oc).ownBlock.toList) (uh hI).2).foots (λj hj=>zq1 ((uh hI).1.lt j (by simpa using hj)).1);have hN:=(uh H).newOv (ow':=oU f.ow i k) hs (v':=.slice ra (oU f.ow i k).length rc) (λj hj=>by simpa using hj) (bW (uh hI).1 (zq5 _));have HN:Hid (Fm (wr.setCell ⟨A,6,none⟩ (.slice ra (oU f.ow i k).length rc)) A { f with ow:=qD f.ow i } av (.slice ra (oU f.ow i k).length rc)/\am (aG A av (.slice oa f.ow.length oc)) w (aG A av (.slice ra (oU f.ow i k).length rc)) (wr.setCell ⟨A,6,none⟩ (.slice ra (oU f.ow i k).length rc))):=ab (by
    have e:qD f.ow i=oU f.ow i k:=(by unfold qD;rw[iz]);rw[e];exact hN)
   have f6:=ownsRow.frozenAt hF.is.ob 6;clear hs hN iz hF;go_wp2_with fail
   go_end0
   exact⟨rfl,_,(uh HN).1,(uh HN).2⟩
end
def DB(l:List Pr)(c:Nat):Nat:=l.countP (λp=>decide (p.r=c))
theorem LV{l:List Pr}{k:Nat}(hk:k<l.length)(c:Nat):DB (l.take (k+1)) c=DB (l.take k) c+(if (l.getD k az).r=c then 1 else 0):=by
 have e:l.getD k az=l[k]:=iI hk;unfold DB;rw[take_add_one,getElem?_eq_getElem hk,countP_append,e];by_cases h:l[k].r=c <;> simp[h]
theorem LU(l:List Pr)(c:Nat):DB l c<=l.length:=countP_le_length
section
variable {w:World} {A:Nat} {f:CF} {av ov:Value}
theorem LW(h:dm w A f av ov)(_ho:f.ow.length<=100000)(c:Nat):Calls prog 262 #[.pointer (some ⟨A,0,none⟩),.int .i64 c] w λe w'=>e=.returned (.int .i64 (DB f.ow c:Nat))/\Below w.heap.size w w':=by
 obtain⟨oa,oc,dB,hoc,hom⟩:=ah h.ow;subst dB;have c6:=h.c6;have H:=ab h;have Ia:=ab (Below.refl w.heap.size w);clear h;go_enter func262,ntmps262;go_wp2_with fail
 go_loopw [5,13] (λn i wx=>∃(k:Nat),k<=f.ow.length/\n=.int .i64 (DB (f.ow.take k) c:Nat)/\i=.int .i64 k/\Hid (Below w.heap.size w wx)) (λ_ i _=>f.ow.length-(intOf i).toNat)
 case atStart=>exact⟨0,zq5 _,rfl,rfl,Ia⟩
 case round =>
  clear Ia;obtain⟨k,hk,rfl,rfl,hb⟩:=hrel;have iA:=LU (f.ow.take k) c;have Qh:(f.ow.take k).length<=k:=by simp;omega
  by_cases ar:k<f.ow.length
  .have hd:decide ((k:Int)<(f.ow.length:Int))=true:=(by simp;omega);have hF:=(uh H).below (uh hb);obtain⟨g,cap,cM,-,-⟩:=aC hF.ow ar;simp only[Value.slice.injEq,true_and]at cM;obtain⟨rfl,rfl⟩:=cM;obtain⟨x0,x1,x2⟩:=aA hF.ow ar;have aE:=LV ar c;obtain⟨p,hp⟩:∃p,p=f.ow.getD k az:=⟨_,rfl⟩;rw[<-hp]at x0 x1 x2 aE;obtain⟨n,hn⟩:∃n,n=DB (f.ow.take k) c:=⟨_,rfl⟩;rw[<-hn]at aE iA ⊢;have cY:Hid (Below w.heap.size w (wr.alloc (.cells #[.int .i64 (p.k:Int),.int .i64 (p.l:Int),.int .i64 (p.r:Int)] 182))):=ab ((uh hb).alloc (uh hb).size _);have i1:(0:Int)<=(k:Int):=(by omega);have i2:(k:Int)<(f.ow.length:Int):=(by omega);clear hF hp hn;by_cases e1:p.r=c
   .have b1:((p.r:Int)==(c:Int))=true:=(by simp[e1]);rw[if_pos e1]at aE;have bA:=ab aE;clear e1 aE;go_wp2_with fail
    go_roundw
    case rel=>exact⟨k+1,by omega,by rw[uh bA];go_num,by go_num,cY⟩
    case measure=>simp[intOf];omega
   .have b1:((p.r:Int)==(c:Int))=false:=(by simp;omega);rw[if_neg e1]at aE;have bA:=ab aE;clear e1 aE;go_wp2_with fail
    go_roundw
    case rel=>exact⟨k+1,by omega,by rw[uh bA];rfl,by go_num,cY⟩
    case measure=>simp[intOf];omega
  .have hd:decide ((k:Int)<(f.ow.length:Int))=false:=(by simp;omega);have HE:Hid (DB (f.ow.take k) c=DB f.ow c):=ab (by rw[take_of_length_le (by omega)]);go_wp2_with fail
   go_ret;exact⟨aQ (by rw[uh HE]),uh hb⟩
theorem yI(a b c d e:Value)(w:World):(Instr.index 176 (.agg #[a,b,c,d,e]) (.int .i64 0)).run prog w=.ok a w:=by kernel_rfl
theorem yJ(a b c d e:Value)(w:World):(Instr.index 176 (.agg #[a,b,c,d,e]) (.int .i64 1)).run prog w=.ok b w:=by kernel_rfl
theorem yK(a b c d e:Value)(w:World):(Instr.index 176 (.agg #[a,b,c,d,e]) (.int .i64 2)).run prog w=.ok c w:=by kernel_rfl
theorem yL(a b c d e:Value)(w:World):(Instr.index 176 (.agg #[a,b,c,d,e]) (.int .i64 3)).run prog w=.ok d w:=by kernel_rfl
theorem yN(a b c d e:Value)(w:World):(Instr.index 176 (.agg #[a,b,c,d,e]) (.int .i64 4)).run prog w=.ok e w:=by kernel_rfl
def nmB(f:CF)(c:Nat):Bool:=decide (f.cl.getD 0 0=c)||decide (f.cl.getD 1 0=c)||decide (f.cl.getD 2 0=c)||decide (f.cl.getD 3 0=c)||decide (f.cl.getD 4 0=c)
theorem JG(h:dm w A f av ov)(c:Nat):Calls prog 261 #[.pointer (some ⟨A,0,none⟩),.int .i64 c] w λe w'=>e=.returned (.bool (nmB f c))/\w'=w:=by
 have x0:=h.cls (i:=0) (by omega);have x1:=h.cls (i:=1) (by omega);have x2:=h.cls (i:=2) (by omega);have x3:=h.cls (i:=3) (by omega);have x4:=h.cls (i:=4) (by omega);unfold eR at x0 x1 x2 x3 x4;unfold nmB;generalize f.cl.getD 0 0=y0 at *;generalize f.cl.getD 1 0=y1 at *;generalize f.cl.getD 2 0=y2 at *;generalize f.cl.getD 3 0=y3 at *;generalize f.cl.getD 4 0=y4 at *;clear h;have j0:=yI (.int .i64 (y0:Int)) (.int .i64 (y1:Int)) (.int .i64 (y2:Int)) (.int .i64 (y3:Int)) (.int .i64 (y4:Int));have j1:=yJ (.int .i64 (y0:Int)) (.int .i64 (y1:Int)) (.int .i64 (y2:Int)) (.int .i64 (y3:Int)) (.int .i64 (y4:Int));have j2:=yK (.int .i64 (y0:Int)) (.int .i64 (y1:Int)) (.int .i64 (y2:Int)) (.int .i64 (y3:Int)) (.int .i64 (y4:Int));have j3:=yL (.int .i64 (y0:Int)) (.int .i64 (y1:Int)) (.int .i64 (y2:Int)) (.int .i64 (y3:Int)) (.int .i64 (y4:Int));have j4:=yN (.int .i64 (y0:Int)) (.int .i64 (y1:Int)) (.int .i64 (y2:Int)) (.int .i64 (y3:Int)) (.int .i64 (y4:Int));obtain⟨b,hb⟩:∃b,b=(decide (y0=c)||decide (y1=c)||decide (y2=c)||decide (y3=c)||decide (y4=c)):=⟨_,rfl⟩;rw[<-hb];have HB:=ab hb;clear hb;go_enter func261,ntmps261;go_wp2_with fail
 go_loop [11] (λi=>∃(k:Nat),k<=5/\i=.int .i64 k/\Hid ((0<k->y0≠c)/\(1<k->y1≠c)/\(2<k->y2≠c)/\(3<k->y3≠c)/\(4<k->y4≠c))) (λi=>5-(intOf i).toNat)
 case atStart=>exact⟨0,zq5 _,rfl,ab ⟨by omega,by omega,by omega,by omega,by omega⟩⟩
 case round =>
  obtain⟨k,hk,rfl,hn⟩:=hrel;have th:k=0\/k=1\/k=2\/k=3\/k=4\/k=5:=by omega
  rcases th with rfl|rfl|rfl|rfl|rfl|rfl
  .by_cases e1:y0=c
   .have b1:((y0:Int)==(c:Int))=true:=(by simp[e1]);have HE:Hid (b=true):=ab (by rw[uh HB];simp[e1]);clear e1;go_wp2_with fail
    go_ret;exact⟨aw (uh HE).symm,rfl⟩
   .have b1:((y0:Int)==(c:Int))=false:=(by simp;omega);have HN:Hid ((0<1->y0≠c)/\(1<1->y1≠c)/\(2<1->y2≠c)/\(3<1->y3≠c)/\(4<1->y4≠c)):=ab (by
     obtain⟨h0,h1,h2,h3,h4⟩:=uh hn;refine⟨?_,?_,?_,?_,?_⟩ <;> intro hh <;> first|exact e1|omega|(apply h0;omega)|(apply h1;omega)|(apply h2;omega)|(apply h3;omega)|(apply h4;omega))
    clear e1;go_wp2_with fail
    go_round
    case rel=>exact⟨1,by omega,by go_num,HN⟩
    case measure=>simp[intOf]
  .by_cases e1:y1=c
   .have b1:((y1:Int)==(c:Int))=true:=(by simp[e1]);have HE:Hid (b=true):=ab (by rw[uh HB];simp[e1]);clear e1;go_wp2_with fail
    go_ret;exact⟨aw (uh HE).symm,rfl⟩
   .have b1:((y1:Int)==(c:Int))=false:=(by simp;omega);have HN:Hid ((0<2->y0≠c)/\(1<2->y1≠c)/\(2<2->y2≠c)/\(3<2->y3≠c)/\(4<2->y4≠c)):=ab (by
     obtain⟨h0,h1,h2,h3,h4⟩:=uh hn;refine⟨?_,?_,?_,?_,?_⟩ <;> intro hh <;> first|exact e1|omega|(apply h0;omega)|(apply h1;omega)|(apply h2;omega)|(apply h3;omega)|(apply h4;omega))
    clear e1;go_wp2_with fail
    go_round
    case rel=>exact⟨2,by omega,by go_num,HN⟩
    case measure=>simp[intOf]
  .by_cases e1:y2=c
   .have b1:((y2:Int)==(c:Int))=true:=(by simp[e1]);have HE:Hid (b=true):=ab (by rw[uh HB];simp[e1]);clear e1;go_wp2_with fail
    go_ret;exact⟨aw (uh HE).symm,rfl⟩
   .have b1:((y2:Int)==(c:Int))=false:=(by simp;omega);have HN:Hid ((0<3->y0≠c)/\(1<3->y1≠c)/\(2<3->y2≠c)/\(3<3->y3≠c)/\(4<3->y4≠c)):=ab (by
     obtain⟨h0,h1,h2,h3,h4⟩:=uh hn;refine⟨?_,?_,?_,?_,?_⟩ <;> intro hh <;> first|exact e1|omega|(apply h0;omega)|(apply h1;omega)|(apply h2;omega)|(apply h3;omega)|(apply h4;omega))
    clear e1;go_wp2_with fail
    go_round
    case rel=>exact⟨3,by omega,by go_num,HN⟩
    case measure=>simp[intOf]
  .by_cases e1:y3=c
   .have b1:((y3:Int)==(c:Int))=true:=(by simp[e1]);have HE:Hid (b=true):=ab (by rw[uh HB];simp[e1]);clear e1;go_wp2_with fail
    go_ret;exact⟨aw (uh HE).symm,rfl⟩
   .have b1:((y3:Int)==(c:Int))=false:=(by simp;omega);have HN:Hid ((0<4->y0≠c)/\(1<4->y1≠c)/\(2<4->y2≠c)/\(3<4->y3≠c)/\(4<4->y4≠c)):=ab (by
     obtain⟨h0,h1,h2,h3,h4⟩:=uh hn;refine⟨?_,?_,?_,?_,?_⟩ <;> intro hh <;> first|exact e1|omega|(apply h0;omega)|(apply h1;omega)|(apply h2;omega)|(apply h3;omega)|(apply h4;omega))
    clear e1;go_wp2_with fail
    go_round
    case rel=>exact⟨4,by omega,by go_num,HN⟩
    case measure=>simp[intOf]
  .by_cases e1:y4=c
   .have b1:((y4:Int)==(c:Int))=true:=(by simp[e1]);have HE:Hid (b=true):=ab (by rw[uh HB];simp[e1]);clear e1;go_wp2_with fail
    go_ret;exact⟨aw (uh HE).symm,rfl⟩
   .have b1:((y4:Int)==(c:Int))=false:=(by simp;omega);have HN:Hid ((0<5->y0≠c)/\(1<5->y1≠c)/\(2<5->y2≠c)/\(3<5->y3≠c)/\(4<5->y4≠c)):=ab (by
     obtain⟨h0,h1,h2,h3,h4⟩:=uh hn;refine⟨?_,?_,?_,?_,?_⟩ <;> intro hh <;> first|exact e1|omega|(apply h0;omega)|(apply h1;omega)|(apply h2;omega)|(apply h3;omega)|(apply h4;omega))
    clear e1;go_wp2_with fail
    go_round
    case rel=>exact⟨5,by omega,by go_num,HN⟩
    case measure=>simp[intOf]
  .have HE:Hid (b=false):=ab (by
    obtain⟨h0,h1,h2,h3,h4⟩:=uh hn;rw[uh HB];simp[h0,h1,h2,h3,h4])
   go_wp2_with fail
   go_ret;exact⟨aw (uh HE).symm,rfl⟩
end
def JT(f:CF)(p:Pr):Bool:=!(nmB f p.l||decide (p.r=p.l))&&decide (DB f.ow p.l=1)
def JS(f:CF):Option Nat:=f.ow.findIdx? (JT f)
theorem XL{l:List Pr}{P:Pr->Bool}{k:Nat}(hk:k<l.length)(hn:∀j,j<k->P (l.getD j az)=false)(h:P (l.getD k az)=true):l.findIdx? P=some k:=by
 rw[findIdx?_eq_some_iff_getElem];refine⟨hk,by rw[<-iI hk];exact h,λj hj=>?_⟩;have:=hn j hj;rw[iI (by omega)]at this;simpa using this
theorem RG{l:List Pr}{P:Pr->Bool}(hn:∀j,j<l.length->P (l.getD j az)=false):l.findIdx? P=none:=by
 rw[findIdx?_eq_none_iff];intro x hx;obtain⟨k,hk,rfl⟩:=mem_iff_getElem.1 hx;have:=hn k hk;rwa [iI hk]at this
section
variable {w:World} {A:Nat} {f:CF} {av ov:Value}
theorem B8(h:dm w A f av ov)(ho:f.ow.length<=100000):Calls prog 250 #[.pointer (some ⟨A,0,none⟩)] w λe w'=>e=.returned (.int .i64 (eH (JS f)))/\Below w.heap.size w w':=by
 obtain⟨oa,oc,dB,hoc,hom⟩:=ah h.ow;subst dB;have H:=ab h;have Ia:=ab (Below.refl w.heap.size w);clear h;go_enter func250,ntmps250;go_wp2_with fail
 go_loopw [3] (λi wx=>∃(k:Nat),k<=f.ow.length/\i=.int .i64 k/\Hid (Below w.heap.size w wx)/\Hid (∀j,j<k->JT f (f.ow.getD j az)=false)) (λi _=>f.ow.length-(intOf i).toNat)
 case atStart=>exact⟨0,zq5 _,rfl,Ia,ab (λ_ h=>absurd h (by omega))⟩
 case round =>
  clear Ia;obtain⟨k,hk,rfl,hb,hn⟩:=hrel;have hF:=(uh H).below (uh hb);have c6:=hF.c6;by_cases ar:k<f.ow.length
  .have hd:decide ((k:Int)<(f.ow.length:Int))=true:=(by simp;omega);obtain⟨g,cap,cM,-,-⟩:=aC hF.ow ar;simp only[Value.slice.injEq,true_and]at cM;obtain⟨rfl,rfl⟩:=cM;obtain⟨x0,x1,x2⟩:=aA hF.ow ar;obtain⟨p,hp⟩:∃p,p=f.ow.getD k az:=⟨_,rfl⟩;rw[<-hp]at x0 x1 x2;have KF:=ab (JG hF p.l);have KA:Hid (Calls prog 262 #[.pointer (some ⟨A,0,none⟩),.int .i64 p.l] wr λe w'=>e=.returned (.int .i64 (DB f.ow p.l:Nat))/\Below w.heap.size w w'):=ab ((LW hF ho p.l).mono (by
    rintro e w' ⟨rfl,ax⟩;exact⟨rfl,(uh hb).trans (ax.mono (uh hb).size)⟩))
   have rJ:JT f p=(!(nmB f p.l||decide (p.r=p.l))&&decide (DB f.ow p.l=1)):=rfl;have nz:Hid (JT f p=false->∀j,j<k+1->JT f (f.ow.getD j az)=false):=ab (λh0 j hj=>by
    by_cases e:j=k
    .rw[e,<-hp];exact h0
    .exact uh hn j (by omega))
   have HHT:Hid (JT f p=true->eH (JS f)=(k:Int)):=ab (λh1=>by unfold JS;rw[XL ar (uh hn) (by rw[<-hp];exact h1)];rfl);have i1:(0:Int)<=(k:Int):=(by omega);have i2:(k:Int)<(f.ow.length:Int):=(by omega);obtain⟨b,rH⟩:∃b,b=nmB f p.l:=⟨_,rfl⟩;obtain⟨m,hm⟩:∃m,m=DB f.ow p.l:=⟨_,rfl⟩;have dl:m<=100000:=(by rw[hm];exact zq3 (LU _ _) ho);rw[<-rH]at rJ KF;rw[<-hm]at rJ KA;have HSM:=ab rJ;clear hF hp rJ rH hm;go_wp2_with fail
   refine(uh KF).mono ?_;rintro e w1 ⟨rfl,rfl⟩;clear KF;cases b with
   |true =>
    have HE:Hid (JT f p=false):=ab (by rw[uh HSM];simp);go_wp2_with fail
    go_roundw
    case rel=>exact⟨k+1,by omega,by go_num,hb,ab (uh nz (uh HE))⟩
    case measure=>simp[intOf];omega
   |false =>
    by_cases e1:p.r=p.l
    .have b1:((p.r:Int)==(p.l:Int))=true:=(by simp[e1]);have HE:Hid (JT f p=false):=ab (by rw[uh HSM];simp[e1]);clear e1;go_wp2_with fail
     go_roundw
     case rel=>exact⟨k+1,by omega,by go_num,hb,ab (uh nz (uh HE))⟩
     case measure=>simp[intOf];omega
    .have b1:((p.r:Int)==(p.l:Int))=false:=(by simp;omega);have HE0:Hid (JT f p=decide (m=1)):=ab (by rw[uh HSM];simp[e1]);clear e1;go_wp2_with fail
     refine(uh KA).mono ?_;rintro e w2 ⟨rfl,ax⟩;have bu:=ab ax;clear ax KA;by_cases e2:m=1
     .have b2:((m:Int)==(1:Int))=true:=(by simp[e2]);have HE:Hid (eH (JS f)=(k:Int)):=ab (uh HHT (by rw[uh HE0];simp[e2]));clear e2;go_wp2_with fail
      go_ret;exact⟨aQ (uh HE).symm,uh bu⟩
     .have b2:((m:Int)==(1:Int))=false:=(by simp;omega);have HE:Hid (JT f p=false):=ab (by rw[uh HE0];simp[e2]);clear e2;go_wp2_with fail
      go_roundw
      case rel=>exact⟨k+1,by omega,by go_num,bu,ab (uh nz (uh HE))⟩
      case measure=>simp[intOf];omega
  .have hd:decide ((k:Int)<(f.ow.length:Int))=false:=(by simp;omega);have HE:Hid (eH (JS f)=-1):=ab (by unfold JS;rw[RG (λj hj=>uh hn j (by omega))];rfl);clear hF;go_wp2_with fail
   go_ret;exact⟨aQ (uh HE).symm,uh hb⟩
end
