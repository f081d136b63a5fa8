import Derived.Test.YtciihepbeacppaaGreatWX
import Derived.Laws.OwnMore
set_option maxRecDepth 100000
set_option maxHeartbeats 0
namespace Go.Proofs.YtciihepbeacppaaGreat
open Tryz Go.RowKit List World Below
set_option linter.unusedVariables false
def VL(p:Pr):List Value:=[.int .i64 p.k,.int .i64 p.l,.int .i64 p.r]
def af(l:List Pr):List Value:=l.flatMap VL
def fV:Option Nat->Int
 |none=>-1
 |some n=>n
def a9(l:List (Option Nat)):List Value:=l.map (λo=>Value.int .i64 (fV o))
theorem fe(a b:List Pr):af (a++b)=af a++af b:=by simp[af]
theorem QM{l:List Pr}{k:Nat}(h:k<l.length):(af l)[k*3]?=some (.int .i64 l[k].k)/\(af l)[k*3+1]?=some (.int .i64 l[k].l)/\(af l)[k*3+2]?=some (.int .i64 l[k].r):=by
 induction l generalizing k with
 |nil=>simp at h
 |cons x l ih =>
  have hx:af (x::l)=[Value.int .i64 x.k,.int .i64 x.l,.int .i64 x.r]++af l:=rfl;cases k with
  |zero=>rw[hx];simp
  |succ k =>
   have:=ih (k:=k) (by simpa using h);rw[hx,show(k+1)*3=k*3+3 by omega];simp only[getElem_cons_succ];refine⟨?_,?_,?_⟩
   .rw[getElem?_append_right (by simp)];simpa using this.1
   .rw[getElem?_append_right (by simp)];simpa[show k*3+3+1-3=k*3+1 by omega] using this.2.1
   .rw[getElem?_append_right (by simp)];simpa[show k*3+3+2-3=k*3+2 by omega] using this.2.2
theorem dR{w:World}{B:Nat}{v:Value}{l:List Pr}(h:w.ownsRow B 182 3 v l.length (af l)):
  ∃ao cap,v=.slice ao l.length cap/\cap<=maxLen/\l.length<=cap/\(l≠[]->∃g,ao=some ⟨g,0,none⟩/\∀j,(h:j<l.length)->w.cell? ⟨g,j*3,none⟩=some (.int .i64 l[j].k)/\w.cell? ⟨g,j*3+1,none⟩=some (.int .i64 l[j].l)/\w.cell? ⟨g,j*3+2,none⟩=some (.int .i64 l[j].r)):=by
 have hw:=h;rcases h.2 with⟨rfl,h0⟩|⟨g,cap,cur,rfl,_,_,hn,hm,_,_⟩
 .have:l=[]:=eq_nil_of_length_eq_zero h0;subst this;exact⟨_,_,rfl,by simp,by simp,λh=>absurd rfl h⟩
 .refine⟨_,_,rfl,hm,hn,λ_=>⟨g,rfl,λj hj=>?_⟩⟩;have hg:=QM hj;exact⟨(hw.cellAt _ (by omega)).trans hg.1,(hw.cellAt _ (by omega)).trans hg.2.1,(hw.cellAt _ (by omega)).trans hg.2.2⟩
def hU(f:CF)(i:Nat):Value:=.int .i64 ((f.cl.getD i 0:Nat):Int)
def jk(f:CF)(av ov:Value):List Value:=[hU f 0,hU f 1,hU f 2,hU f 3,hU f 4,av,ov]
def Ob(w:World)(T n A:Nat)(xs:List Value):Prop:=w.ownsRow 0 T n (.slice (some ⟨A,0,none⟩) 1 1) 1 xs
structure eQ(w:World)(A:Nat)(f:CF)(av ov:Value):Prop where
 ob:Ob w 179 7 A (jk f av ov)
 ap:w.ownsRow 0 182 3 av f.ap.length (af f.ap)
 ow:w.ownsRow 0 182 3 ov f.ow.length (af f.ow)
def aG(A:Nat)(av ov:Value):List Nat:=A::(av.ownBlock.toList++ov.ownBlock.toList)
theorem Ob.of_eq{w w':World}{T n A:Nat}{xs:List Value}(h:Ob w T n A xs)(he:w'.heap[A]?=w.heap[A]?):Ob w' T n A xs :=
 ae h (λk hk=>by cases hk;exact he)
theorem eQ.of_eq{w w':World}{A:Nat}{f:CF}{av ov:Value}(h:eQ w A f av ov)(he:∀k∈aG A av ov,w'.heap[k]?=w.heap[k]?):eQ w' A f av ov :=
 ⟨h.ob.of_eq (he A (by simp[aG])),ae h.ap (λk hk=>he k (by simp[aG,hk])),ae h.ow (λk hk=>he k (by simp[aG,hk]))⟩
theorem eQ.lt{w:World}{A:Nat}{f:CF}{av ov:Value}(h:eQ w A f av ov):∀k∈aG A av ov,k<w.heap.size:=by
 intro k hk;simp only[aG,mem_cons,mem_append,Option.mem_toList]at hk;rcases hk with rfl|hk|hk
 .exact(ownsRow.lt h.ob _ rfl).2
 .exact(h.ap.lt k hk).2
 .exact(h.ow.lt k hk).2
theorem eQ.drewN{w:World}{A:Nat}{f:CF}{av ov:Value}(h:eQ w A f av ov)(n:Nat):eQ (w.drewN n) A f av ov:=h.of_eq (λ_ _=>by simp)
theorem eQ.alloc{w:World}{A:Nat}{f:CF}{av ov:Value}(h:eQ w A f av ov)(o:Obj):eQ (w.alloc o) A f av ov:=h.of_eq (λk hk=>heap_alloc _ _ _ (h.lt k hk))
theorem eQ.cls{w:World}{A:Nat}{f:CF}{av ov:Value}(h:eQ w A f av ov){i:Nat}(hi:i<5):w.cell? ⟨A,i,none⟩=some (hU f i):=by
 have:=ownsRow.cellAt h.ob i (by omega);rw[this];have hk:i=0\/i=1\/i=2\/i=3\/i=4:=by omega
 rcases hk with rfl|rfl|rfl|rfl|rfl <;> rfl
theorem eQ.c5{w:World}{A:Nat}{f:CF}{av ov:Value}(h:eQ w A f av ov):w.cell? ⟨A,5,none⟩=some av:=ownsRow.cellAt h.ob 5 (by omega)
theorem eQ.c6{w:World}{A:Nat}{f:CF}{av ov:Value}(h:eQ w A f av ov):w.cell? ⟨A,6,none⟩=some ov:=ownsRow.cellAt h.ob 6 (by omega)
theorem Tz{l:List Pr}{c k:Nat}(hk:k<l.length)(hn:∀j,(hj:j<l.length)->j<k->l[j].l≠c)(h:l[k].l=c):cE l c=some k:=by
 induction l generalizing k with
 |nil=>simp at hk
 |cons x r ih =>
  cases k with
  |zero=>simp only[getElem_cons_zero]at h;simp[cE,h]
  |succ k =>
   have h0:x.l≠c:=hn 0 (by simp) (by omega);simp only[cE,if_neg h0];rw[ih (k:=k) (by simpa using hk) (λj hj IG=>hn (j+1) (by simpa using hj) (by omega)) (by simpa using h)];rfl
theorem Nk{l:List Pr}{c:Nat}(hn:∀j,(hj:j<l.length)->l[j].l≠c):cE l c=none:=by
 induction l with
 |nil=>rfl
 |cons x r ih =>
  have h0:x.l≠c:=hn 0 (by simp);simp only[cE,if_neg h0];rw[ih (λj hj=>hn (j+1) (by simpa using hj))];rfl
theorem bh{a b:Nat}:((a:Int)==(b:Int))=decide (a=b):=by
 rw[Bool.eq_iff_iff,beq_iff_eq,decide_eq_true_eq];omega
theorem cP{w:World}{A:Nat}{f:CF}{av ov:Value}(c:Nat)(h:eQ w A f av ov):
  Calls prog 208 #[.pointer (some ⟨A,0,none⟩),.int .i64 c] w λe w'=>e=.returned (.int .i64 (fV (cE f.ow c)))/\w'=w:=by
 obtain⟨ao,cap,gy,hm,Mt,hc⟩:=dR h.ow;have h6:=h.c6;rw[gy]at h6;have HC:=ab hc;clear hc h gy;unfold maxLen at hm;go_enter func208,ntmps208;go_wp2_with fail
 go_loop [5] (λi=>∃k:Nat,k<=f.ow.length/\i=.int .i64 k/\Hid (∀j,(hj:j<f.ow.length)->j<k->f.ow[j].l≠c)) (λi=>f.ow.length-(intOf i).toNat)
 case atStart=>exact⟨0,zq5 _,rfl,λ_ _ h=>absurd h (by omega)⟩
 case round =>
  obtain⟨k,hk,rfl,ee⟩:=hrel;by_cases au:k<f.ow.length
  .obtain⟨g,tb,ax⟩:=uh HC (by intro h;rw[h]at au;simp at au);have xR:=(ax k au).2.1;clear ax;rw[tb]at h6;cases he:((f.ow[k].l:Int)==(c:Int)) with
   |true =>
    go_wp2_with fail
    go_ret;exact⟨bj (by rw[Tz au ee.out (by rw[bh]at he;simpa using he)];rfl),rfl⟩
   |false =>
    go_wp2_with fail
    go_round
    case rel =>
     refine⟨k+1,by omega,by go_num,λj hj IG=>?_⟩;by_cases aaj:j=k
     .subst aaj;intro e;rw[bh]at he;simp[e]at he
     .exact ee.out j hj (by omega)
    case measure=>simp[intOf];omega
  .have hd:decide ((k:Int)<(f.ow.length:Int))=false:=(by simp;omega);go_wp2_with fail
   go_ret;exact⟨bj (by rw[Nk (λj hj=>ee.out j hj (by omega))];rfl),rfl⟩
theorem sF(o:Option Nat):decide ((0:Int)<=fV o)=o.isSome:=by cases o <;> simp[fV]
theorem yV{w:World}{A:Nat}{f:CF}{av ov:Value}(a b:Nat)(h:eQ w A f av ov):
  Calls prog 222 #[.pointer (some ⟨A,0,none⟩),.int .i64 a,.int .i64 b] w λe w'=>e=.returned (.bool (mH f a b))/\w'=w:=by
 have HA:=ab (cP a h);have HB:=ab (cP b h);have h0:=h.cls (i:=0) (by omega);unfold hU at h0;obtain⟨c0,ED⟩:∃c0,c0=f.cl.getD 0 0:=⟨_,rfl⟩;rw[<-ED]at h0;have HC:=ab ED;clear h ED;go_enter func222,ntmps222;go_wp2_with fail
 refine(uh HA).mono ?_;rintro e w1 ⟨rfl,rfl⟩;have KW:=sF (cE f.ow a);cases h1:(cE f.ow a).isSome <;> rw[h1]at KW
 all_goals
  go_wp2_with fail
  refine(uh HB).mono ?_;rintro e w1 ⟨rfl,rfl⟩;have Pd:=sF (cE f.ow b);cases h2:(cE f.ow b).isSome <;> rw[h2]at Pd
 .go_wp2_with fail
  go_ret;exact⟨by unfold mH;rw[h1,h2];rfl,rfl⟩
 .cases h3:((a:Int)==(c0:Int)) <;>
  .go_wp2_with fail
   go_ret;exact⟨by unfold mH;rw[h1,h2,<-uh HC];rw[bh]at h3;simp at h3;simp[h3],rfl⟩
 .cases h3:((b:Int)==(c0:Int)) <;>
  .go_wp2_with fail
   go_ret;exact⟨by unfold mH;rw[h1,h2,<-uh HC];rw[bh]at h3;simp at h3;simp[h3],rfl⟩
 .go_wp2_with fail
  go_ret;exact⟨by unfold mH;rw[h1,h2];rfl,rfl⟩
def CR(a b:Nat)(p:Pr):Bool:=(p.l==a&&p.r==b)||(p.l==b&&p.r==a)
theorem NN{f:CF}{a b k:Nat}(aH:a≠b)(hk:k<f.ap.length)(h:CR a b f.ap[k]=true):aV f a b=true:=by
 unfold aV;rw[if_neg aH];have:f.ap.any (CR a b)=true:=any_eq_true.2 ⟨_,getElem_mem hk,h⟩;show(f.ap.any (CR a b)||mH f a b)=true;rw[this];rfl
theorem NQ{f:CF}{a b:Nat}(aH:a≠b)(h:∀j,(hj:j<f.ap.length)->CR a b f.ap[j]=false):aV f a b=mH f a b:=by
 unfold aV;rw[if_neg aH];have:f.ap.any (CR a b)=false:=by
  rw[any_eq_false];intro p hp;obtain⟨j,hj,rfl⟩:=mem_iff_getElem.1 hp;rw[h j hj];simp
 show(f.ap.any (CR a b)||mH f a b)=_;rw[this];rfl
theorem l7{w:World}{A:Nat}{f:CF}{av ov:Value}(a b:Nat)(h:eQ w A f av ov):
  Calls prog 245 #[.pointer (some ⟨A,0,none⟩),.int .i64 a,.int .i64 b] w λe w'=>e=.returned (.bool (aV f a b))/\Below w.heap.size w w':=by
 by_cases si:a=b
 .subst si;have he:((a:Int)==(a:Int))=true:=by simp
  go_enter func245,ntmps245;go_wp2_with fail
  go_ret;exact⟨by unfold aV;simp,Below.refl _ _⟩
 .have aH:((a:Int)==(b:Int))=false:=by rw[bh];simpa using si
  obtain⟨ao,cap,kt,hm,Mt,hc⟩:=dR h.ap;have h5:=h.c5;rw[kt]at h5;have HC:=ab hc;have HF:=ab h;clear hc kt h;unfold maxLen at hm;go_enter func245,ntmps245;go_wp2_with fail
  go_loopw [17] (λi wr=>∃k:Nat,k<=f.ap.length/\i=.int .i64 k/\Hid (∀j,(hj:j<f.ap.length)->j<k->CR a b f.ap[j]=false)/\Below w.heap.size w wr) (λi _=>f.ap.length-(intOf i).toNat)
  case atStart=>exact⟨0,zq5 _,rfl,λ_ _ h=>absurd h (by omega),Below.refl _ _⟩
  case round =>
   obtain⟨k,hk,rfl,ee,cL⟩:=hrel;by_cases au:k<f.ap.length
   .obtain⟨g,tb,ax⟩:=uh HC (by intro h;rw[h]at au;simp at au);subst tb;obtain⟨EK,tr,pV⟩:=ax k au;have c0:=(cL.cell (block_lt_of_cell? w _ EK)).trans EK;have c1:=(cL.cell (block_lt_of_cell? w _ tr)).trans tr;have c2:=(cL.cell (block_lt_of_cell? w _ pV)).trans pV;clear ax EK tr pV;have HB:=ab cL;obtain⟨p,hp⟩:∃p,p=f.ap[k]:=⟨_,rfl⟩;rw[<-hp]at c0 c1 c2;have HP:=ab hp;clear cL hp;have HR:Hid (CR a b p=true->aV f a b=true):=ab (λh=>NN si au (by rw[<-uh HP];exact h));have HN:Hid (CR a b p=false->∀j,(hj:j<f.ap.length)->j<k+1->CR a b f.ap[j]=false):=ab (λh j hj IG=>by
     by_cases e:j=k
     .subst e;rw[<-uh HP];exact h
     .exact ee.out j hj (by omega))
    have round:CR a b p=false->(∃k_1:Nat,k_1<=f.ap.length/\Value.int IntKind.i64 ((k:Int)+1)=Value.int IntKind.i64 k_1/\Hid (∀(j:Nat) (hj:j<f.ap.length),j<k_1->CR a b f.ap[j]=false)/\Below w.heap.size w (wr.alloc (Obj.cells #[Value.int IntKind.i64 p.k,Value.int IntKind.i64 p.l,Value.int IntKind.i64 p.r] 182)))/\f.ap.length-(intOf (Value.int IntKind.i64 ((k:Int)+1))).toNat<f.ap.length-(intOf (Value.int IntKind.i64 (k:Int))).toNat:=λh =>
     ⟨⟨k+1,by omega,by go_num,ab (uh HN h),(uh HB).alloc (uh HB).size _⟩,by simp[intOf];omega⟩
    have HRo:=ab round;clear round;cases h1:((p.l:Int)==(a:Int)) with
    |true =>
     have hla:Hid (p.l=a):=ab (by rw[bh]at h1;simpa using h1);cases h2:((p.r:Int)==(b:Int)) with
     |true =>
      have F9:Hid (p.r=b):=ab (by rw[bh]at h2;simpa using h2);go_wp2_with fail
      go_ret;exact⟨by rw[uh HR (by simp[CR,uh hla,uh F9])];rfl,(uh HB).alloc (uh HB).size _⟩
     |false =>
      have h3:((p.l:Int)==(b:Int))=false:=(by rw[uh hla];exact aH);have F9:Hid (p.r≠b):=ab (by rw[bh]at h2;simpa using h2);go_wp2_with fail
      exact uh HRo (by simp[CR,uh hla,uh F9,si])
    |false =>
     have hla:Hid (p.l≠a):=ab (by rw[bh]at h1;simpa using h1);cases h3:((p.l:Int)==(b:Int)) with
     |true =>
      have EH:Hid (p.l=b):=ab (by rw[bh]at h3;simpa using h3);cases h4:((p.r:Int)==(a:Int)) with
      |true =>
       have hra:Hid (p.r=a):=ab (by rw[bh]at h4;simpa using h4);go_wp2_with fail
       go_ret;exact⟨by rw[uh HR (by simp[CR,uh EH,uh hra])];rfl,(uh HB).alloc (uh HB).size _⟩
      |false =>
       have hra:Hid (p.r≠a):=ab (by rw[bh]at h4;simpa using h4);go_wp2_with fail
       exact uh HRo (by simp[CR,uh hla,uh hra])
     |false =>
      have EH:Hid (p.l≠b):=ab (by rw[bh]at h3;simpa using h3);go_wp2_with fail
      exact uh HRo (by simp[CR,uh hla,uh EH])
   .have hd:decide ((k:Int)<(f.ap.length:Int))=false:=(by simp;omega);go_wp2_with fail
    refine(yV a b ((uh HF).of_eq (λk hk=>cL.block k ((uh HF).lt k hk)))).mono ?_;rintro e w1 ⟨rfl,rfl⟩;go_wp2_with fail
    go_ret;exact⟨by rw[NQ si (λj hj=>ee.out j hj (by omega))];rfl,cL⟩
def Y4(V:CF):List Nat->Nat->Nat->Prop
 |[],_,_=>False
 |[i],a,e=>(V.ow.getD i ay).l=a/\(V.ow.getD i ay).r=e
 |i::j::r,a,e=>(V.ow.getD i ay).l=a/\Y4 V (j::r) (V.ow.getD i ay).r e
def jB(V T:CF)(b:Nat->Option Nat):List Nat->List Nat->Prop
 |[],fr=>fr=[]
 |k::ks,fr=>∃L rest,fr.Perm (L++rest)/\(∃a e,b (T.ow.getD k ay).l=some a/\b (T.ow.getD k ay).r=some e/\Y4 V L a e)/\((T.ow.getD k ay).k≠4->∃i,L=[i]/\(V.ow.getD i ay).k≠4)/\jB V T b ks rest
theorem jB.swap{V T:CF}{b:Nat->Option Nat}{j k:Nat}{ks fr:List Nat}(h:jB V T b (j::k::ks) fr):jB V T b (k::j::ks) fr:=by
 obtain⟨L,rest,h1,h2,h3,L2,rest2,h4,h5,h6,h7⟩:=h;refine⟨L2,L++rest2,?_,h5,h6,L,rest2,List.Perm.refl _,h2,h3,h7⟩;refine h1.trans ((List.Perm.append_left L h4).trans ?_);rw[<-append_assoc,<-append_assoc];exact List.Perm.append_right rest2 perm_append_comm
theorem jB.cons{V T:CF}{b:Nat->Option Nat}{k:Nat}{ks ks':List Nat}(h:∀fr,jB V T b ks fr->jB V T b ks' fr){fr:List Nat}(hd:jB V T b (k::ks) fr):jB V T b (k::ks') fr:=by
 obtain⟨L,rest,h1,h2,h3,h4⟩:=hd;exact⟨L,rest,h1,h2,h3,h _ h4⟩
theorem jB.permK{V T:CF}{b:Nat->Option Nat}{ks ks':List Nat}(h:ks.Perm ks'):∀{fr:List Nat},jB V T b ks fr->jB V T b ks' fr:=by
 induction h with
 |nil=>intro fr h;exact h
 |cons k _ ih=>intro fr hd;exact jB.cons (λ_ h=>ih h) hd
 |swap j k r=>intro fr hd;exact jB.swap hd
 |trans _ _ h1 h2=>intro fr hd;exact h2 (h1 hd)
def sZ(s:SS):List Nat:=(range s.ot.length).filter (λi=>(s.ot.getD i none).isNone)
def uP(s:SS):List Nat:=(range s.pl.length).filter (λk=>!s.pl.getD k false)
structure Wf(V T:CF)(s:SS):Prop where
 lo:s.ot.length=V.ow.length
 lp:s.pl.length=T.ow.length
 lb:s.bd.length=24
 un:s.un=(sZ s).length
theorem du{α:Type}(l:List α)(i j:Nat)(x d:α)(h:i<l.length):(l.set i x).getD j d=if i=j then x else l.getD j d:=by
 simp only[getD_eq_getElem?_getD,getElem?_set];by_cases e:i=j
 .subst e;simp[h]
 .simp[e]
theorem j9{α:Type}(l:List α)(i:Nat)(d:α):l.set i (l.getD i d)=l:=by
 apply ext_getElem?;intro n;by_cases hn:i=n
 .subst hn;by_cases h:i<l.length
  .simp[h]
  .simp[h]
 .simp[hn]
theorem mW{p q:Nat->Bool}{l:List Nat}{i:Nat}(hl:l.Nodup)(hi:i∈l)(hp:p i=true)(hq:q i=false)(h:∀j,j≠i->q j=p j):(l.filter p).Perm (i::l.filter q):=by
 induction l with
 |nil=>cases hi
 |cons a l ih =>
  have hn:=nodup_cons.1 hl;by_cases e:a=i
  .subst e;have:l.filter q=l.filter p:=filter_congr (λj hj=>h j (λe=>hn.1 (e ▸ hj)));simp[hp,hq,this]
  .have hm:i∈l:=by
    rcases mem_cons.1 hi with h|h
    .exact absurd h.symm e
    .exact h
   have h2:=h a e;cases UK:p a with
   |true =>
    rw[filter_cons_of_pos UK,filter_cons_of_pos (by rw[h2,UK])];exact(List.Perm.cons a (ih hn.2 hm)).trans (List.Perm.swap i a _)
   |false =>
    rw[filter_cons_of_neg (by simp[UK]),filter_cons_of_neg (by simp[h2,UK])];exact ih hn.2 hm
theorem CZ{s:SS}{i k:Nat}(hi:i<s.ot.length)(hn:s.ot.getD i none=none){s':SS}(h:s'.ot=s.ot.set i (some k)):(sZ s).Perm (i::sZ s'):=by
 unfold sZ;rw[h,length_set];refine mW nodup_range (mem_range.2 hi) (by rw[hn];rfl) (by rw[du _ _ _ _ _ hi];simp) (λj hj=>?_);rw[du _ _ _ _ _ hi,if_neg (λe=>hj e.symm)]
theorem JV{s:SS}{k:Nat}(hk:k∈uP s){s':SS}(h:s'.pl=s.pl.set k true):(uP s).Perm (k::uP s'):=by
 have h1:=mem_filter.1 hk;have hi:=mem_range.1 h1.1;unfold uP;rw[h,length_set];refine mW nodup_range h1.1 h1.2 (by rw[du _ _ _ _ _ hi];simp) (λj hj=>?_);rw[du _ _ _ _ _ hi,if_neg (λe=>hj e.symm)]
def Ext(s s':SS):Prop:=∀c a,s.b c=some a->s'.b c=some a
theorem CL{l:List Pr}{c i:Nat}(h:cE l c=some i):i<l.length/\(l.getD i ay).l=c:=by
 induction l generalizing i with
 |nil=>cases h
 |cons p r ih =>
  simp only[cE]at h;split at h
  .cases h;exact⟨by simp,by simpa⟩
  .obtain⟨j,hj,rfl⟩:=Option.map_eq_some_iff.1 h;have:=ih hj;exact⟨by simp;omega,by simpa using this.2⟩
theorem Ns{T:CF}{s:SS}:∀{l:List Nat} {o:Option Nat} {k:Nat},Sp T s l o=some k->(k∈l/\s.pl.getD k false=false)\/o=some k:=by
 intro l;induction l with
 |nil=>intro o k h;exact zq1 h
 |cons a l ih =>
  intro o k h;simp only[Sp]at h;split at h
  .rcases ih h with h1|h1
   .exact zq0 ⟨by simp[h1.1],h1.2⟩
   .exact zq1 h1
  .rename_i hp;split at h
   .cases h;exact zq0 ⟨by simp,by simpa using hp⟩
   .rcases ih h with h1|h1
    .exact zq0 ⟨by simp[h1.1],h1.2⟩
    .split at h1
     .exact zq1 h1
     .cases h1;exact zq0 ⟨by simp,by simpa using hp⟩
theorem CN{T:CF}{s:SS}{k:Nat}(h:Y5 T s=some k):k∈uP s:=by
 rcases Ns h with h1|h1
 .exact mem_filter.2 ⟨h1.1,by rw[h1.2];rfl⟩
 .cases h1
def Rm(T:CF):Prop:=∀p∈T.ow,p.l<24/\p.r<24
theorem Rm.at{T:CF}(h:Rm T)(k:Nat):(T.ow.getD k ay).l<24/\(T.ow.getD k ay).r<24:=by
 by_cases hk:k<T.ow.length
 .have:T.ow.getD k ay=T.ow[k]:=by simp[hk]
  rw[this];exact h _ (getElem_mem hk)
 .simp[getD_eq_getElem?_getD,getElem?_eq_none (Nat.le_of_not_lt hk),ay]
def YR(V T:CF)(W:SS->Nat->Nat->Nat->Bool × SS):Prop :=
 ∀s k at_ count,Wf V T s->k∈uP s->(uP s).length+count=T.ow.length->∀b s',W s k at_ count=(b,s') ->
  (b=false->s'={ s with st:=s'.st }) /\
  (b=true->Ext s s'/\Mb V T s'=true/\s'.bd.length=24/\∃L rest,(sZ s).Perm (L++rest)/\(∃e,s'.b (T.ow.getD k ay).r=some e/\Y4 V L at_ e)/\((T.ow.getD k ay).k≠4->∃i,L=[i]/\(V.ow.getD i ay).k≠4)/\jB V T s'.b ((uP s).erase k) rest)
def YM(V T:CF)(P:SS->Nat->Bool × SS):Prop :=
 ∀s count,Wf V T s->(uP s).length+count=T.ow.length->∀b s',P s count=(b,s') ->
  (b=false->s'={ s with st:=s'.st }) /\
  (b=true->Ext s s'/\Mb V T s'=true/\s'.bd.length=24/\jB V T s'.b (uP s) (sZ s))
theorem vG{V T:CF}{b:Nat->Option Nat}{U fr L rest:List Nat}{k a:Nat}(hk:k∈U)(h1:fr.Perm (L++rest))(ha:b (T.ow.getD k ay).l=some a)(h2:∃e,b (T.ow.getD k ay).r=some e/\Y4 V L a e)(h3:(T.ow.getD k ay).k≠4->∃i,L=[i]/\(V.ow.getD i ay).k≠4)(h4:jB V T b (U.erase k) rest):jB V T b U fr:=by
 refine jB.permK (perm_cons_erase hk).symm ⟨L,rest,h1,?_,h3,h4⟩;obtain⟨e,he,hc⟩:=h2;exact⟨a,e,ha,he,hc⟩
theorem abw{V T:CF}{W:SS->Nat->Nat->Nat->Bool × SS}(hW:YR V T W){k left count:Nat}(hl:left<24)(m9:left=(T.ow.getD k ay).l):∀(l:List Pr) (s:SS),Wf V T s->k∈uP s->(uP s).length+count=T.ow.length->∀b s',Gz W k left count l s=(b,s') ->
  (b=false->s'={ s with st:=s'.st,bd:=s.bd.set left none }) /\
  (b=true->(∀c a,c≠left->s.b c=some a->s'.b c=some a)/\Mb V T s'=true/\s'.bd.length=24/\jB V T s'.b (uP s) (sZ s)):=by
 intro l;induction l with
 |nil =>
  intro s hw hk hc b s' h;simp only[Gz]at h;cases h
  exact⟨λ_=>rfl,λh=>by cases h⟩
 |cons p r ih =>
  intro s hw hk hc b s' h;simp only[Gz]at h;have tq:Wf V T { s with bd:=s.bd.set left (some p.l) }:=⟨hw.lo,hw.lp,by simpa using hw.lb,hw.un⟩;cases hr:W { s with bd:=s.bd.set left (some p.l) } k p.l count with
  |mk b2 s2 =>
   rw[hr]at h;have hx:=hW _ _ _ _ tq hk hc _ _ hr;cases b2 with
   |true =>
    cases h
    refine⟨λh=>(by cases h),λ_=>?_⟩;obtain⟨he,eK,Cj,L,rest,h1,h2,h3,h4⟩:=hx.2 rfl;have cU:∀c,({ s with bd:=s.bd.set left (some p.l) }:SS).b c=if left=c then some p.l else s.b c:=λc=>du _ _ _ _ _ (by rw[hw.lb];exact hl)
    refine⟨λc a dU ha=>he c a (by rw[cU,if_neg (λe=>dU e.symm)];exact ha),eK,Cj,?_⟩;exact vG hk h1 (by rw[<-m9];exact he left p.l (by rw[cU,if_pos rfl])) h2 h3 h4
   |false =>
    have h5:=hx.1 rfl;have e2:(uP s2)=uP s:=(by rw[h5];rfl);have e3:(sZ s2)=sZ s:=(by rw[h5];rfl);have IM:Wf V T s2:=(by rw[h5];exact⟨hw.lo,hw.lp,by simpa using hw.lb,hw.un⟩);have hy:=ih s2 IM (by rw[e2];exact hk) (by rw[e2];exact hc) _ _ h;refine⟨λhb=>?_,λhb=>?_⟩
    .have h6:=hy.1 hb;rw[h6,h5];simp
    .obtain⟨g1,g2,g3,g4⟩:=hy.2 hb;rw[e2,e3]at g4;refine⟨λc a dU ha=>g1 c a dU ?_,g2,g3,g4⟩;rw[h5];show(s.bd.set left (some p.l)).getD c none=some a;rw[du _ _ _ _ _ (by rw[hw.lb];exact hl),if_neg (λe=>dU e.symm)];exact ha
theorem BF{V T:CF}(hT:Rm T){W:SS->Nat->Nat->Nat->Bool × SS}(hW:YR V T W):YM V T (zF W V T):=by
 intro s count hw hc b s' h;unfold zF at h;by_cases h0:T.ow.length=count
 .rw[if_pos h0]at h;cases h
  refine⟨λ_=>rfl,λhb=>?_⟩;simp only[Bool.and_eq_true,decide_eq_true_eq]at hb;have hu:uP s=[]:=eq_nil_of_length_eq_zero (by omega);have hf:sZ s=[]:=eq_nil_of_length_eq_zero (by rw[<-hw.un];exact hb.1);exact⟨λ_ _ h=>h,hb.2,hw.lb,by rw[hu,hf];rfl⟩
 .rw[if_neg h0]at h;by_cases h1:s.un<T.ow.length-count
  .rw[if_pos h1]at h;cases h;exact⟨λ_=>rfl,λhb=>by cases hb⟩
  .rw[if_neg h1]at h;cases pT:Y5 T s with
   |none=>rw[pT]at h;cases h;exact⟨λ_=>rfl,λhb=>by cases hb⟩
   |some k =>
    rw[pT]at h;dsimp only at h;have hk:=CN pT;cases hb:s.b (T.ow.getD k ay).l with
    |some a =>
     rw[hb]at h;have hx:=hW _ _ _ _ hw hk hc _ _ h;refine⟨hx.1,λyk=>?_⟩;obtain⟨he,eK,Cj,L,rest,g1,g2,g3,g4⟩:=hx.2 yk;exact⟨he,eK,Cj,vG hk g1 (he _ _ hb) g2 g3 g4⟩
    |none =>
     rw[hb]at h;have hx:=abw hW (hT.at k).1 rfl _ _ hw hk hc _ _ h;refine⟨λZ5=>?_,λyk=>?_⟩
     .have h6:=hx.1 Z5;rw[h6];have:s.bd.set (T.ow.getD k ay).l none=s.bd:=by
       have:=j9 s.bd (T.ow.getD k ay).l none;rw[show s.bd.getD (T.ow.getD k ay).l none=none from hb]at this;exact this
      rw[this]
     .obtain⟨g1,g2,g3,g4⟩:=hx.2 yk;refine⟨λc a ha=>g1 c a (λe=>?_) ha,g2,g3,g4⟩;rw[e,hb]at ha;cases ha
theorem NZ{V T:CF}(hT:Rm T){P:SS->Nat->Bool × SS}(hP:YM V T P){s:SS}{k at_ count:Nat}(hw:Wf V T s)(hk:k∈uP s)(hc:(uP s).length+count=T.ow.length){b:Bool}{s':SS}(h:Fq P T s k at_ count=(b,s')):
  (b=false->s'={ s with st:=s'.st })/\(b=true->Ext s s'/\Mb V T s'=true/\s'.bd.length=24/\s'.b (T.ow.getD k ay).r=some at_/\jB V T s'.b ((uP s).erase k) (sZ s)):=by
 unfold Fq at h;by_cases h0:s.b (T.ow.getD k ay).r≠none/\s.b (T.ow.getD k ay).r≠some at_
 .rw[if_pos h0]at h;cases h;exact⟨λ_=>rfl,λhb=>by cases hb⟩
 .rw[if_neg h0]at h;have tq:Wf V T { s with bd:=s.bd.set (T.ow.getD k ay).r (some at_),pl:=s.pl.set k true }:=⟨hw.lo,by simpa using hw.lp,by simpa using hw.lb,hw.un⟩;have EJ:=JV (s:=s) hk (s':={ s with bd:=s.bd.set (T.ow.getD k ay).r (some at_),pl:=s.pl.set k true }) rfl;have m9:=EJ.length_eq;rw[length_cons]at m9;have cU:∀c,({ s with bd:=s.bd.set (T.ow.getD k ay).r (some at_),pl:=s.pl.set k true }:SS).b c=if (T.ow.getD k ay).r=c then some at_ else s.b c:=λc=>du _ _ _ _ _ (by rw[hw.lb];exact(hT.at k).2)
  cases hr:P { s with bd:=s.bd.set (T.ow.getD k ay).r (some at_),pl:=s.pl.set k true } (count+1) with
  |mk b2 s2 =>
   rw[hr]at h;have hx:=hP _ _ tq (by omega) _ _ hr;cases b2 with
   |true =>
    cases h
    refine⟨λh=>(by cases h),λ_=>?_⟩;obtain⟨he,eK,Cj,hd⟩:=hx.2 rfl;refine⟨λc a ha=>he c a ?_,eK,Cj,he _ _ (by rw[cU,if_pos rfl]),jB.permK ?_ hd⟩
    .rw[cU];by_cases e:(T.ow.getD k ay).r=c
     .rw[if_pos e];subst e;by_cases e2:a=at_
      .rw[e2]
      .exact absurd ⟨by rw[ha];simp,by rw[ha];simpa using e2⟩ h0
     .rw[if_neg e];exact ha
    .exact(perm_cons k).1 (EJ.symm.trans (perm_cons_erase hk))
   |false =>
    cases h
    refine⟨λ_=>?_,λh=>by cases h⟩;have h5:=hx.1 rfl;rw[h5];have e1:(s.bd.set (T.ow.getD k ay).r (some at_)).set (T.ow.getD k ay).r (s.b (T.ow.getD k ay).r)=s.bd:=by
     rw[set_set];exact j9 _ _ _
    have e2:(s.pl.set k true).set k false=s.pl:=by
     rw[set_set];have:=j9 s.pl k false;rwa [show s.pl.getD k false=false by simpa using (mem_filter.1 hk).2]at this
    simp only[e1,e2]
theorem Nt{V:CF}{i:Nat}{L:List Nat}{e:Nat}(h:Y4 V L (V.ow.getD i ay).r e):Y4 V (i::L) (V.ow.getD i ay).l e:=by
 cases L with
 |nil=>exact h.elim
 |cons j r=>exact⟨rfl,h⟩
theorem Ej{V T:CF}(hT:Rm T):∀m,YR V T (wk V T m):=by
 intro m;induction m with
 |zero =>
  intro s k at_ count hw hk hc b s' h;simp only[wk]at h;cases h
  exact⟨λ_=>rfl,λhb=>by cases hb⟩
 |succ m ih =>
  intro s k at_ count hw hk hc b s' h;simp only[wk]at h;by_cases h0:wrap64 (s.st-1)<0
  .rw[if_pos h0]at h;cases h;exact⟨λ_=>rfl,λhb=>by cases hb⟩
  .rw[if_neg h0]at h;cases nX:cE V.ow at_ with
   |none=>rw[nX]at h;cases h;exact⟨λ_=>rfl,λhb=>by cases hb⟩
   |some i =>
    rw[nX]at h;dsimp only at h;obtain⟨hi,ur⟩:=CL nX;by_cases h1:s.ot.getD i none≠none
    .rw[if_pos h1]at h;cases h;exact⟨λ_=>rfl,λhb=>by cases hb⟩
    .rw[if_neg h1]at h;have hn:s.ot.getD i none=none:=Classical.byContradiction h1;by_cases h2:(T.ow.getD k ay).k≠4/\(V.ow.getD i ay).k=4
     .rw[if_pos h2]at h;cases h;exact⟨λ_=>rfl,λhb=>by cases hb⟩
     .rw[if_neg h2]at h;have KZ:i<s.ot.length:=(by rw[hw.lo];exact hi);obtain⟨s1,dA⟩:∃s1:SS,s1={ s with st:=wrap64 (s.st-1),ot:=s.ot.set i (some k),un:=s.un-1 }:=⟨_,rfl⟩;rw[<-dA]at h;have lR:(sZ s).Perm (i::sZ s1):=CZ KZ hn (by rw[dA]);have jx:=lR.length_eq;rw[length_cons]at jx;have zq:Wf V T s1:=by
       refine⟨by rw[dA];simpa using hw.lo,by rw[dA];exact hw.lp,by rw[dA];exact hw.lb,?_⟩;have h3:s1.un=s.un-1:=(by rw[dA]);have h4:=hw.un;omega
      have hu1:uP s1=uP s:=(by rw[dA];rfl);have agb:(T.ow.getD k ay).k≠4->(V.ow.getD i ay).k≠4:=λa b=>h2 ⟨a,b⟩;cases hr:Fq (zF (wk V T m) V T) T s1 k (V.ow.getD i ay).r count with
      |mk b2 s2 =>
       rw[hr]at h;have hx:=NZ hT (BF hT ih) zq (by rw[hu1];exact hk) (by rw[hu1];exact hc) hr;cases b2 with
       |true =>
        cases h
        refine⟨λh=>(by cases h),λ_=>?_⟩;obtain⟨he,eK,Cj,hbr,hd⟩:=hx.2 rfl;rw[hu1]at hd;refine⟨λc a ha=>he c a (by rw[dA];exact ha),eK,Cj,[i],sZ s1,lR,⟨_,hbr,ur,rfl⟩,λxU=>⟨i,rfl,agb xU⟩,hd⟩
       |false =>
        dsimp only at h;have h5:=hx.1 rfl;have hu2:uP s2=uP s:=(by rw[h5];exact hu1);have mK:sZ s2=sZ s1:=(by rw[h5];rfl);have tq:Wf V T s2:=(by rw[h5];exact⟨zq.lo,zq.lp,zq.lb,zq.un⟩);have Xo:∀s3:SS,s3={ s1 with st:=s3.st }->({ s3 with ot:=s3.ot.set i none,un:=s3.un+1 }:SS)={ s with st:=s3.st }:=by
         intro s3 h3;rw[h3,dA];have e1:(s.ot.set i (some k)).set i none=s.ot:=by
          rw[set_set];have:=j9 s.ot i none;rwa [hn]at this
         have e2:s.un-1+1=s.un:=(by have:=hw.un;omega);simp only[e1,e2]
        by_cases xU:(T.ow.getD k ay).k=4
        .rw[if_pos xU]at h;cases hr3:wk V T m s2 k (V.ow.getD i ay).r count with
         |mk b3 s3 =>
          rw[hr3]at h;have hy:=ih _ _ _ _ tq (by rw[hu2];exact hk) (by rw[hu2];exact hc) _ _ hr3;cases b3 with
          |true =>
           cases h
           refine⟨λh=>(by cases h),λ_=>?_⟩;obtain⟨he,eK,Cj,L,rest,g1,⟨e,g2,g2'⟩,_,g4⟩:=hy.2 rfl;rw[hu2]at g4;rw[mK]at g1;refine⟨λc a ha=>he c a (by rw[h5,dA];exact ha),eK,Cj,i::L,rest,lR.trans (List.Perm.cons i g1),⟨e,g2,by rw[<-ur];exact Nt g2'⟩,λhx4=>absurd xU hx4,g4⟩
          |false =>
           cases h
           refine⟨λ_=>?_,λh=>by cases h⟩;have h6:=hy.1 rfl;have h7:s3={ s1 with st:=s3.st }:=(by rw[h6,h5]);exact Xo s3 h7
        .rw[if_neg xU]at h;cases h
         exact⟨λ_=>Xo s2 h5,λh=>by cases h⟩
def X3(A:Nat):Value:=.pointer (some ⟨A,0,none⟩)
def ig(F0 T0:Nat)(an:List (Option Nat)):List Value:=[X3 F0,X3 T0]++a9 an
def JA(V0:Nat)(s:SS)(ov pv:Value):List Value:=[X3 V0,ov,.int .i64 (s.un:Int),pv,.int .i64 s.st]
def nH(F0 T0 V0:Nat)(an:List (Option Nat))(s:SS)(ov pv:Value):List Value:=ig F0 T0 an++(a9 s.bd++JA V0 s ov pv)
def Fz(Q:Nat)(ov pv:Value):List Nat:=Q::(ov.ownBlock.toList++pv.ownBlock.toList)
structure rN where
 q:Nat
 f:Nat
 t:Nat
 v:Nat
 an:List (Option Nat)
 tav:Value
 tov:Value
 vav:Value
 vov:Value
 ov:Value
 pv:Value
def rN.fp(y:rN):List Nat:=Fz y.q y.ov y.pv
structure Sw(w:World)(y:rN)(T V:CF)(s:SS):Prop where
 ob:Ob w 202 55 y.q (nH y.f y.t y.v y.an s y.ov y.pv)
 la:y.an.length=24
 lb:s.bd.length=24
 ow:w.ownsRow 0 3 1 y.ov s.ot.length (a9 s.ot)
 pl:w.ownsRow 0 4 1 y.pv s.pl.length (s.pl.map Value.bool)
 nd:y.fp.Nodup
 ft:eQ w y.t T y.tav y.tov
 fv:eQ w y.v V y.vav y.vov
 dt:∀k∈aG y.t y.tav y.tov,k ∉ y.fp
 dv:∀k∈aG y.v y.vav y.vov,k ∉ y.fp
section
variable {w w':World} {y:rN} {T V:CF} {s s':SS}
theorem aO(l:List (Option Nat)):(a9 l).length=l.length:=by simp[a9]
theorem gm(h:Sw w y T V s):(ig y.f y.t y.an).length=26:=by simp[ig,aO,h.la]
theorem Sw.qlt(h:Sw w y T V s):∀k∈y.fp,k<w.heap.size:=by
 intro k hk;simp only[rN.fp,Fz,mem_cons,mem_append,Option.mem_toList]at hk;rcases hk with rfl|hk|hk
 .exact(ownsRow.lt h.ob _ rfl).2
 .exact(h.ow.lt k hk).2
 .exact(h.pl.lt k hk).2
theorem Sw.frz(h:Sw w y T V s)(j:Nat):w.frozen? ⟨y.q,j,none⟩=false:=ownsRow.frozenAt h.ob j
theorem Sw.c1(h:Sw w y T V s):w.cell? ⟨y.q,1,none⟩=some (.pointer (some ⟨y.t,0,none⟩)):=by rw[ownsRow.cellAt h.ob 1 (by omega)];rfl
theorem Sw.tail(h:Sw w y T V s){j:Nat}(hj:j<5):w.cell? ⟨y.q,50+j,none⟩=(JA y.v s y.ov y.pv)[j]?:=by
 rw[ownsRow.cellAt h.ob (50+j) (by omega)];unfold nH;rw[getElem?_append_right (by rw[gm h];omega),gm h,getElem?_append_right (by rw[aO,h.lb];omega),aO,h.lb];rw[show 50+j-26-24=j by omega]
theorem Sw.cv(h:Sw w y T V s):w.cell? ⟨y.q,50,none⟩=some (.pointer (some ⟨y.v,0,none⟩)):=h.tail (j:=0) (by omega)
theorem Sw.co(h:Sw w y T V s):w.cell? ⟨y.q,51,none⟩=some y.ov:=h.tail (j:=1) (by omega)
theorem Sw.cu(h:Sw w y T V s):w.cell? ⟨y.q,52,none⟩=some (.int .i64 (s.un:Int)):=h.tail (j:=2) (by omega)
theorem Sw.cp(h:Sw w y T V s):w.cell? ⟨y.q,53,none⟩=some y.pv:=h.tail (j:=3) (by omega)
theorem Sw.cs(h:Sw w y T V s):w.cell? ⟨y.q,54,none⟩=some (.int .i64 s.st):=h.tail (j:=4) (by omega)
theorem Sw.cb(h:Sw w y T V s){r:Nat}(hr:r<24):w.cell? ⟨y.q,26+r,none⟩=some (.int .i64 (fV (s.b r))):=by
 rw[ownsRow.cellAt h.ob (26+r) (by omega)];unfold nH;rw[getElem?_append_right (by rw[gm h];omega),gm h,getElem?_append_left (by rw[aO,h.lb];omega)];rw[show 26+r-26=r by omega];have hl:r<s.bd.length:=by rw[h.lb];exact hr
 simp[a9,SS.b,hl]
theorem Sw.setQ(h:Sw w y T V s){j:Nat}{u:Value}(hq:(nH y.f y.t y.v y.an s y.ov y.pv).set j u=nH y.f y.t y.v y.an s' y.ov y.pv)(h1:s'.bd.length=24)(h2:s'.ot=s.ot)(h3:s'.pl=s.pl):Sw (w.setCell ⟨y.q,j,none⟩ u) y T V s':=by
 have ti:=(ownsRow.stored h.ob j u).1;rw[hq]at ti;have hn:=h.nd;simp only[rN.fp,Fz,nodup_cons,mem_append,Option.mem_toList,not_or]at hn;have iK:∀k,k≠y.q->(w.setCell ⟨y.q,j,none⟩ u).heap[k]?=w.heap[k]?:=λk hk=>heap_setCell _ _ _ _ (λe=>hk e);refine⟨ti,h.la,h1,?_,?_,h.nd,?_,?_,h.dt,h.dv⟩
 .rw[h2];exact ae h.ow (λk hk=>iK k (by rintro rfl;exact hn.1.1 hk))
 .rw[h3];exact ae h.pl (λk hk=>iK k (by rintro rfl;exact hn.1.2 hk))
 .exact h.ft.of_eq (λk hk=>iK k (by rintro rfl;exact h.dt _ hk (by simp[rN.fp,Fz])))
 .exact h.fv.of_eq (λk hk=>iK k (by rintro rfl;exact h.dv _ hk (by simp[rN.fp,Fz])))
theorem Sw.setB(h:Sw w y T V s){r:Nat}(hr:r<24)(o:Option Nat):Sw (w.setCell ⟨y.q,26+r,none⟩ (.int .i64 (fV o))) y T V { s with bd:=s.bd.set r o }:=by
 refine h.setQ ?_ (by simpa using h.lb) rfl rfl;unfold nH;rw[set_append_right (26+r) _ (by rw[gm h];omega),gm h,show 26+r-26=r by omega,set_append_left r _ (by rw[aO,h.lb];exact hr)];congr 2;simp[a9,map_set]
theorem Sw.setT(h:Sw w y T V s){j:Nat}{u:Value}(h1:(JA y.v s y.ov y.pv).set j u=JA y.v s' y.ov y.pv)(hb:s'.bd=s.bd)(h2:s'.ot=s.ot)(h3:s'.pl=s.pl):Sw (w.setCell ⟨y.q,50+j,none⟩ u) y T V s':=by
 refine h.setQ ?_ (by rw[hb];exact h.lb) h2 h3;unfold nH;rw[set_append_right (50+j) _ (by rw[gm h];omega),gm h,set_append_right (50+j-26) _ (by rw[aO,h.lb];omega),aO,h.lb,show 50+j-26-24=j by omega,h1,hb]
theorem Sw.setUn(h:Sw w y T V s)(n:Nat):Sw (w.setCell ⟨y.q,52,none⟩ (.int .i64 (n:Int))) y T V { s with un:=n }:=h.setT (j:=2) rfl rfl rfl rfl
theorem Sw.setSt(h:Sw w y T V s)(n:Int):Sw (w.setCell ⟨y.q,54,none⟩ (.int .i64 n)) y T V { s with st:=n }:=h.setT (j:=4) rfl rfl rfl rfl
theorem Sw.own(h:Sw w y T V s)(hn:s.ot≠[]):∃O cap,y.ov=.slice (some ⟨O,0,none⟩) s.ot.length cap/\s.ot.length<=cap/\cap<=maxLen/\(∀i,i<s.ot.length->w.cell? ⟨O,i,none⟩=some (.int .i64 (fV (s.ot.getD i none))))/\(∀j,w.frozen? ⟨O,j,none⟩=false):=by
 have ho:=h.ow;rcases h.ow.2 with⟨_,h0⟩|⟨O,cap,cur,hv,_,_,Mt,hm,_⟩
 .exact absurd (eq_nil_of_length_eq_zero h0) hn
 .rw[hv]at ho;refine⟨O,cap,hv,Mt,hm,λi hi=>?_,λj=>ho.frozenAt j⟩;rw[ho.cellAt i (by omega)];simp[a9,hi]
theorem Sw.plc(h:Sw w y T V s)(hn:s.pl≠[]):∃L cap,y.pv=.slice (some ⟨L,0,none⟩) s.pl.length cap/\s.pl.length<=cap/\cap<=maxLen/\(∀i,i<s.pl.length->w.cell? ⟨L,i,none⟩=some (.bool (s.pl.getD i false)))/\(∀j,w.frozen? ⟨L,j,none⟩=false):=by
 have ho:=h.pl;rcases h.pl.2 with⟨_,h0⟩|⟨O,cap,cur,hv,_,_,Mt,hm,_⟩
 .exact absurd (eq_nil_of_length_eq_zero h0) hn
 .rw[hv]at ho;refine⟨O,cap,hv,Mt,hm,λi hi=>?_,λj=>ho.frozenAt j⟩;rw[ho.cellAt i (by omega)];simp[hi]
theorem Sw.setO(h:Sw w y T V s){O cap:Nat}(hv:y.ov=.slice (some ⟨O,0,none⟩) s.ot.length cap)(i:Nat)(o:Option Nat):Sw (w.setCell ⟨O,i,none⟩ (.int .i64 (fV o))) y T V { s with ot:=s.ot.set i o }:=by
 have ho:=h.ow;rw[hv]at ho;have aP:=(ho.stored i (.int .i64 (fV o))).1;have hm:O∈y.fp:=by simp[rN.fp,Fz,hv,Value.ownBlock]
 have hn:=h.nd;simp only[rN.fp,Fz,nodup_cons,mem_append,Option.mem_toList,not_or,nodup_append]at hn;have ti:y.ov.ownBlock=some O:=by rw[hv];rfl
 have iK:∀k,k≠O->(w.setCell ⟨O,i,none⟩ (.int .i64 (fV o))).heap[k]?=w.heap[k]?:=λk hk=>heap_setCell _ _ _ _ (λe=>hk e);refine⟨h.ob.of_eq (iK _ (λe=>hn.1.1 (by rw[ti,e]))),h.la,h.lb,?_,?_,h.nd,?_,?_,h.dt,h.dv⟩
 .rw[hv];have e:(a9 s.ot).set i (.int .i64 (fV o))=a9 (s.ot.set i o):=by simp[a9,map_set]
  rw[e]at aP;simpa using aP
 .exact ae h.pl (λk hk=>iK k (by rintro rfl;exact hn.2.2.2 _ ti _ hk rfl))
 .exact h.ft.of_eq (λk hk=>iK k (by rintro rfl;exact h.dt _ hk hm))
 .exact h.fv.of_eq (λk hk=>iK k (by rintro rfl;exact h.dv _ hk hm))
theorem Sw.setP(h:Sw w y T V s){O cap:Nat}(hv:y.pv=.slice (some ⟨O,0,none⟩) s.pl.length cap)(i:Nat)(o:Bool):Sw (w.setCell ⟨O,i,none⟩ (.bool o)) y T V { s with pl:=s.pl.set i o }:=by
 have ho:=h.pl;rw[hv]at ho;have aP:=(ho.stored i (.bool o)).1;have hm:O∈y.fp:=by simp[rN.fp,Fz,hv,Value.ownBlock]
 have hn:=h.nd;simp only[rN.fp,Fz,nodup_cons,mem_append,Option.mem_toList,not_or,nodup_append]at hn;have ti:y.pv.ownBlock=some O:=by rw[hv];rfl
 have iK:∀k,k≠O->(w.setCell ⟨O,i,none⟩ (.bool o)).heap[k]?=w.heap[k]?:=λk hk=>heap_setCell _ _ _ _ (λe=>hk e);refine⟨h.ob.of_eq (iK _ (λe=>hn.1.2 (by rw[ti,e]))),h.la,h.lb,?_,?_,h.nd,?_,?_,h.dt,h.dv⟩
 .exact ae h.ow (λk hk=>iK k (by rintro rfl;exact hn.2.2.2 _ hk _ ti rfl))
 .rw[hv];have e:(s.pl.map Value.bool).set i (.bool o)=(s.pl.set i o).map Value.bool:=by simp[map_set]
  rw[e]at aP;simpa using aP
 .exact h.ft.of_eq (λk hk=>iK k (by rintro rfl;exact h.dt _ hk hm))
 .exact h.fv.of_eq (λk hk=>iK k (by rintro rfl;exact h.dv _ hk hm))
theorem Sw.of_eq(h:Sw w y T V s)(he:∀k,k<w.heap.size->w'.heap[k]?=w.heap[k]?):Sw w' y T V s :=
 ⟨h.ob.of_eq (he _ (ownsRow.lt h.ob _ rfl).2),h.la,h.lb,ae h.ow (λk hk=>he k (h.ow.lt k hk).2),ae h.pl (λk hk=>he k (h.pl.lt k hk).2),h.nd,
  h.ft.of_eq (λk hk=>he k (h.ft.lt k hk)),h.fv.of_eq (λk hk=>he k (h.fv.lt k hk)),h.dt,h.dv⟩
theorem Sw.below(h:Sw w y T V s)(hb:Below w.heap.size w w'):Sw w' y T V s:=h.of_eq (λk hk=>hb.block k hk)
theorem Sw.memQ(y:rN):y.q∈y.fp:=by simp[rN.fp,Fz]
theorem Sw.memO{O n cap:Nat}(hv:y.ov=.slice (some ⟨O,0,none⟩) n cap):O∈y.fp:=by simp[rN.fp,Fz,hv,Value.ownBlock]
theorem Sw.memP{O n cap:Nat}(hv:y.pv=.slice (some ⟨O,0,none⟩) n cap):O∈y.fp:=by simp[rN.fp,Fz,hv,Value.ownBlock]
end
def PlC(y:rN)(T V:CF)(m:Nat)(P:SS->Nat->Bool × SS):Prop :=
 ∀(w:World) (s:SS) (count:Nat),Sw w y T V s->Wf V T s->s.un<m->(uP s).length+count=T.ow.length ->
  Calls prog 177 #[.pointer (some ⟨y.q,0,none⟩),.int .i64 count] w λe w'=>e=.returned (.bool (P s count).1)/\Sw w' y T V (P s count).2/\ar y.fp w y.fp w'
def WkC(y:rN)(T V:CF)(m:Nat)(W:SS->Nat->Nat->Nat->Bool × SS):Prop :=
 ∀(w:World) (s:SS) (k at_ count:Nat),Sw w y T V s->Wf V T s->s.un<m->k∈uP s->(uP s).length+count=T.ow.length ->
  Calls prog 207 #[.pointer (some ⟨y.q,0,none⟩),.int .i64 k,.int .i64 at_,.int .i64 count] w λe w'=>e=.returned (.bool (W s k at_ count).1)/\Sw w' y T V (W s k at_ count).2/\ar y.fp w y.fp w'
theorem GP{s:SS}{k:Nat}(h:k∈uP s):k<s.pl.length/\s.pl.getD k false=false:=by
 obtain⟨h1,h2⟩:=mem_filter.1 h;exact⟨mem_range.1 h1,by simpa using h2⟩
theorem j7{l:List Pr}{k:Nat}(h:k<l.length):l.getD k ay=l[k]:=by simp[h]
theorem oy(o:Option Nat):(fV o != (-1:Int))=o.isSome:=by
 cases o with
 |none=>rfl
 |some n=>simp[fV]
theorem TT{y:rN}{T V:CF}(hT:Rm T){m:Nat}{P:SS->Nat->Bool × SS}(hP:PlC y T V m P)(hPk:YM V T P){w:World}{s:SS}{k at_ count:Nat}(h:Sw w y T V s)(hw:Wf V T s)(hm:s.un<m)(hk:k∈uP s)(hc:(uP s).length+count=T.ow.length):
  Calls prog 246 #[.pointer (some ⟨y.q,0,none⟩),.int .i64 k,.int .i64 at_,.int .i64 count] w λe w'=>e=.returned (.bool (Fq P T s k at_ count).1)/\Sw w' y T V (Fq P T s k at_ count).2/\ar y.fp w y.fp w':=by
 obtain⟨gK,hkp⟩:=GP hk;have hkT:k<T.ow.length:=by rw[<-hw.lp];exact gK
 obtain⟨ao,tcap,gy,htm,XL,htc⟩:=dR h.ft.ow;obtain⟨g,tb,ax⟩:=htc (by intro e;rw[e]at hkT;simp at hkT);have hr:=(ax k hkT).2.2;have KL:=h.ft.c6;rw[gy,tb]at KL;have hq1:=h.c1;obtain⟨right,hri⟩:∃right,right=(T.ow.getD k ay).r:=⟨_,rfl⟩;have F8:right<24:=by rw[hri];exact(hT.at k).2
 rw[<-j7 hkT,<-hri]at hr;have KS:=h.cb F8;obtain⟨bef,SC⟩:∃bef,bef=s.b right:=⟨_,rfl⟩;rw[<-SC]at KS;have UM:s.pl≠[]:=by intro e;rw[e]at gK;simp at gK
 obtain⟨L,lcap,ez,hlc,hlm,hpc,hpf⟩:=h.plc UM;have dO:=hw.lp;have dU:count<T.ow.length:=by
  have:=length_pos_of_mem hk;omega
 have hfz:=h.frz (26+right);have HS:=ab h;have HW:=ab hw;have HK:=ab hk;have HC:=ab hc;have WI:=ab hP;have HPK:=ab hPk;have HRI:=ab hri;have EX:=ab SC;have yc:=ab ez;have HM:=ab hm
 -- behind the two stores
 have cI:=ab (h.setB F8 (some at_));have hq7:=(uh cI).cp;rw[ez]at hq7;have alU:(w.setCell ⟨y.q,26+right,none⟩ (.int .i64 (fV (some at_)))).frozen? ⟨L,k,none⟩=false:=by
  obtain⟨L',c',e',_,_,_,h2⟩:=(uh cI).plc UM;rw[ez]at e';cases e'
  exact h2 k
 have alT:(w.setCell ⟨y.q,26+right,none⟩ (.int .i64 (fV (some at_)))).cell? ⟨L,k,none⟩=some (.bool false):=by
  obtain⟨L',c',e',_,_,h2,_⟩:=(uh cI).plc UM;rw[ez]at e';cases e'
  have:=h2 k gK;rw[this];exact congrArg some (congrArg Value.bool hkp)
 have dh:=ab ((uh cI).setP (i:=k) (o:=true) ez);rw[show(fV (some at_))=(at_:Int) from rfl]at hq7 alU alT dh cI;have arM:lcap<=9223372036854775807:=by unfold maxLen at hlm;omega
 have asl:tcap<=9223372036854775807:=by unfold maxLen at htm;omega
 clear htm hlm;have hs2u:({ s with bd:=s.bd.set right (some at_),pl:=s.pl.set k true }:SS).un<m:=hm;have tq:Wf V T { s with bd:=s.bd.set right (some at_),pl:=s.pl.set k true }:=⟨hw.lo,by simpa using hw.lp,by simpa using hw.lb,hw.un⟩;have EJ:=JV (s:=s) hk (s':={ s with bd:=s.bd.set right (some at_),pl:=s.pl.set k true }) rfl;have m9:=EJ.length_eq;rw[length_cons]at m9;have vS:(uP { s with bd:=s.bd.set right (some at_),pl:=s.pl.set k true }).length+(count+1)=T.ow.length:=by omega
 have Wy:=ab (hP _ _ (count+1) (uh dh) tq hs2u vS);have mr:=ab (hPk _ (count+1) tq vS _ _ rfl)
 -- what end answers
 obtain⟨r,hr0⟩:∃r,r=P { s with bd:=s.bd.set right (some at_),pl:=s.pl.set k true } (count+1):=⟨_,rfl⟩;rw[<-hr0]at Wy mr;have HEn:Hid ((bef=none\/bef=some at_)->Fq P T s k at_ count=(if r.1=true then (true,r.2) else (false,{ r.2 with pl:=r.2.pl.set k false,bd:=r.2.bd.set right bef }))):=ab (λhb=>by
  unfold Fq;rw[<-hri,<-SC,if_neg (by rintro⟨a,b⟩;rcases hb with hb|hb;exact a hb;exact b hb),<-hr0];obtain⟨b1,s1⟩:=r;cases b1 <;> rfl)
 have HEf:Hid (¬ (bef=none\/bef=some at_)->Fq P T s k at_ count=(false,s)):=ab (λhb=>by
  unfold Fq;rw[<-hri,<-SC,if_pos ⟨λe=>hb (zq0 e),λe=>hb (zq1 e)⟩])
 have aek:Hid (ar y.fp w y.fp ((w.setCell ⟨y.q,26+right,none⟩ (.int .i64 (at_:Int))).setCell ⟨L,k,none⟩ (.bool true))):=ab (((ar.refl y.fp w).setCell (zq0 (Sw.memQ y)) _).setCell (zq0 (Sw.memP ez)) _);clear hr0 tq hs2u vS m9 EJ;clear h hw hk hc hP hPk hri SC ez ax htc hpc hpf hm gy tb hkp;have main:∀(O3:Hid (bef=none\/bef=some at_)) (x:Int) (hx:w.cell? ⟨y.q,26+right,none⟩=some (.int .i64 x)) (XN:Hid (x=fV bef)) (tr:(x != (-1:Int))=false\/((x != (-1:Int))=true/\(x != (at_:Int))=false)),Calls prog 246 #[.pointer (some ⟨y.q,0,none⟩),.int .i64 k,.int .i64 at_,.int .i64 count] w λe w'=>e=.returned (.bool (Fq P T s k at_ count).1)/\Sw w' y T V (Fq P T s k at_ count).2/\ar y.fp w y.fp w':=by
  intro O3 x hx XN tr;have adM:=ab (uh HEn (uh O3));clear KS O3;rcases tr with tr|⟨tr,pV⟩
  all_goals
   go_enter func246,ntmps246;go_wp2_with fail
   rw[show((count:Int)+1)=((count+1:Nat):Int) by omega];refine(uh Wy).mono ?_;rintro e w3 ⟨rfl,cS,FI⟩;obtain⟨b,s3⟩:=r;cases b with
   |true =>
    have iV:=ab cS;have vh:=ab FI;clear cS FI;go_wp2_with fail
    go_ret;rw[uh adM];exact⟨rfl,uh iV,(uh aek).trans (uh vh)⟩
   |false =>
    have gj:=(uh mr).1 rfl;dsimp only at cS gj;have UL:s3.pl=s.pl.set k true:=(by rw[gj]);have XH:s3.pl≠[]:=by
     rw[UL];intro e;have:=congrArg List.length e;simp at this;exact UM this
    have hc3:=cS.cp;rw[uh yc]at hc3;obtain⟨L',lc',e',_,_,agF,agG⟩:=cS.plc XH;rw[uh yc]at e';have eL:L=L':=(by injection e' with e1 _ _;injection e1 with e1;injection e1);subst eL;have hx3:=agF k (by rw[UL];simpa using gK);have hy3:=agG k;have Ps:s3.pl.length=s.pl.length:=(by rw[UL];simp);have mF:=ab (cS.setP (i:=k) (o:=false) (by rw[Ps];exact uh yc));have art:=(uh mF).frz (26+right);have tE:=ab ((uh mF).setB F8 bef);have L9:Hid (ar y.fp w y.fp ((w3.setCell ⟨L,k,none⟩ (.bool false)).setCell ⟨y.q,26+right,none⟩ (.int .i64 (fV bef)))):=ab (((uh aek).trans ((FI.setCell (zq0 (Sw.memP (uh yc))) _).setCell (zq0 (Sw.memQ y)) _)));rw[<-uh XN]at tE L9;have afI:∃u,(w3.setCell ⟨L,k,none⟩ (.bool false)).cell? ⟨y.q,26+right,none⟩=some u:=⟨_,(uh mF).cb F8⟩;obtain⟨u4,afI⟩:=afI;clear cS FI agF agG gj UL XH Ps;go_wp2_with fail
    go_ret;rw[uh adM];exact⟨rfl,uh tE,uh L9⟩
 have HCb:=ab KS;have HM:=ab main;clear main;cases bef with
 |none=>exact uh HM (ab (zq0 rfl)) (-1) KS (ab rfl) (zq0 rfl)
 |some b0 =>
  by_cases e:b0=at_
  .refine uh HM (ab (zq1 (by rw[e]))) (b0:Int) KS (ab rfl) (zq1 ⟨oy (some b0),?_⟩);rw[e];simp
  .have aH:((b0:Int) != (at_:Int))=true:=(by rw[bne_iff_ne];omega);have ku:((b0:Int) != (-1:Int))=true:=oy (some b0);have arp:w.cell? ⟨y.q,26+right,none⟩=some (.int .i64 (b0:Int)):=KS;have ajx:=ab (uh HEf (by rintro(h|h);cases h;exact e (Option.some.inj h)));clear KS;go_enter func246,ntmps246;go_wp2_with fail
   go_ret;rw[uh ajx];exact⟨rfl,uh HS,ar.refl _ _⟩
