import Derived.Test.YtciihepbeacppaaGreatWX
import Derived.Laws.OwnMore
set_option maxRecDepth 100000
set_option maxHeartbeats 0
namespace Go.Proofs.YtciihepbeacppaaGreat
open Tryz Go.RowKit List World Below
set_option linter.unusedVariables false
def VJ(p:Pr):List Value:=[.int .i64 p.k,.int .i64 p.l,.int .i64 p.r]
def af(l:List Pr):List Value:=l.flatMap VJ
def fU:Option Nat->Int
 |none=>-1
 |some n=>n
def a9(l:List (Option Nat)):List Value:=l.map (λo=>Value.int .i64 (fU o))
theorem eZ(a b:List Pr):af (a++b)=af a++af b:=by simp[af]
theorem QK{l:List Pr}{k:Nat}(h:k<l.length):(af l)[k*3]?=some (.int .i64 l[k].k)/\(af l)[k*3+1]?=some (.int .i64 l[k].l)/\(af l)[k*3+2]?=some (.int .i64 l[k].r):=by
 induction l generalizing k with
 |nil=>simp at h
 |cons x l ih =>
  have hx:af (x::l)=[Value.int .i64 x.k,.int .i64 x.l,.int .i64 x.r]++af l:=rfl;cases k with
  |zero=>rw[hx];simp
  |succ k =>
   have:=ih (k:=k) (by simpa using h);rw[hx,show(k+1)*3=k*3+3 by omega];simp only[getElem_cons_succ];refine⟨?_,?_,?_⟩
   .rw[getElem?_append_right (by simp)];simpa using this.1
   .rw[getElem?_append_right (by simp)];simpa[show k*3+3+1-3=k*3+1 by omega] using this.2.1
   .rw[getElem?_append_right (by simp)];simpa[show k*3+3+2-3=k*3+2 by omega] using this.2.2
theorem dQ{w:World}{B:Nat}{v:Value}{l:List Pr}(h:w.ownsRow B 182 3 v l.length (af l)):
  ∃ao cap,v=.slice ao l.length cap/\cap<=maxLen/\l.length<=cap/\(l≠[]->∃g,ao=some ⟨g,0,none⟩/\∀j,(h:j<l.length)->w.cell? ⟨g,j*3,none⟩=some (.int .i64 l[j].k)/\w.cell? ⟨g,j*3+1,none⟩=some (.int .i64 l[j].l)/\w.cell? ⟨g,j*3+2,none⟩=some (.int .i64 l[j].r)):=by
 have hw:=h;rcases h.2 with⟨rfl,h0⟩|⟨g,cap,cur,rfl,_,_,hn,hm,_,_⟩
 .have:l=[]:=eq_nil_of_length_eq_zero h0;subst this;exact⟨_,_,rfl,by simp,by simp,λh=>absurd rfl h⟩
 .refine⟨_,_,rfl,hm,hn,λ_=>⟨g,rfl,λj hj=>?_⟩⟩;have hg:=QK hj;exact⟨(hw.cellAt _ (by omega)).trans hg.1,(hw.cellAt _ (by omega)).trans hg.2.1,(hw.cellAt _ (by omega)).trans hg.2.2⟩
def gZ(f:CF)(i:Nat):Value:=.int .i64 ((f.cl.getD i 0:Nat):Int)
def ji(f:CF)(av ov:Value):List Value:=[gZ f 0,gZ f 1,gZ f 2,gZ f 3,gZ f 4,av,ov]
def Ob(w:World)(T n A:Nat)(xs:List Value):Prop:=w.ownsRow 0 T n (.slice (some ⟨A,0,none⟩) 1 1) 1 xs
structure eP(w:World)(A:Nat)(f:CF)(av ov:Value):Prop where
 ob:Ob w 179 7 A (ji f av ov)
 ap:w.ownsRow 0 182 3 av f.ap.length (af f.ap)
 ow:w.ownsRow 0 182 3 ov f.ow.length (af f.ow)
def aG(A:Nat)(av ov:Value):List Nat:=A::(av.ownBlock.toList++ov.ownBlock.toList)
theorem Ob.of_eq{w w':World}{T n A:Nat}{xs:List Value}(h:Ob w T n A xs)(he:w'.heap[A]?=w.heap[A]?):Ob w' T n A xs :=
 ae h (λk hk=>by cases hk;exact he)
theorem eP.of_eq{w w':World}{A:Nat}{f:CF}{av ov:Value}(h:eP w A f av ov)(he:∀k∈aG A av ov,w'.heap[k]?=w.heap[k]?):eP w' A f av ov :=
 ⟨h.ob.of_eq (he A (by simp[aG])),ae h.ap (λk hk=>he k (by simp[aG,hk])),ae h.ow (λk hk=>he k (by simp[aG,hk]))⟩
theorem eP.lt{w:World}{A:Nat}{f:CF}{av ov:Value}(h:eP w A f av ov):∀k∈aG A av ov,k<w.heap.size:=by
 intro k hk;simp only[aG,mem_cons,mem_append,Option.mem_toList]at hk;rcases hk with rfl|hk|hk
 .exact(ownsRow.lt h.ob _ rfl).2
 .exact(h.ap.lt k hk).2
 .exact(h.ow.lt k hk).2
theorem eP.drewN{w:World}{A:Nat}{f:CF}{av ov:Value}(h:eP w A f av ov)(n:Nat):eP (w.drewN n) A f av ov:=h.of_eq (λ_ _=>by simp)
theorem eP.alloc{w:World}{A:Nat}{f:CF}{av ov:Value}(h:eP w A f av ov)(o:Obj):eP (w.alloc o) A f av ov:=h.of_eq (λk hk=>heap_alloc _ _ _ (h.lt k hk))
theorem eP.cls{w:World}{A:Nat}{f:CF}{av ov:Value}(h:eP w A f av ov){i:Nat}(hi:i<5):w.cell? ⟨A,i,none⟩=some (gZ f i):=by
 have:=ownsRow.cellAt h.ob i (by omega);rw[this];have hk:i=0\/i=1\/i=2\/i=3\/i=4:=by omega
 rcases hk with rfl|rfl|rfl|rfl|rfl <;> rfl
theorem eP.c5{w:World}{A:Nat}{f:CF}{av ov:Value}(h:eP w A f av ov):w.cell? ⟨A,5,none⟩=some av:=ownsRow.cellAt h.ob 5 (by omega)
theorem eP.c6{w:World}{A:Nat}{f:CF}{av ov:Value}(h:eP w A f av ov):w.cell? ⟨A,6,none⟩=some ov:=ownsRow.cellAt h.ob 6 (by omega)
theorem Tx{l:List Pr}{c k:Nat}(hk:k<l.length)(hn:∀j,(hj:j<l.length)->j<k->l[j].l≠c)(h:l[k].l=c):cD l c=some k:=by
 induction l generalizing k with
 |nil=>simp at hk
 |cons x r ih =>
  cases k with
  |zero=>simp only[getElem_cons_zero]at h;simp[cD,h]
  |succ k =>
   have h0:x.l≠c:=hn 0 (by simp) (by omega);simp only[cD,if_neg h0];rw[ih (k:=k) (by simpa using hk) (λj hj IE=>hn (j+1) (by simpa using hj) (by omega)) (by simpa using h)];rfl
theorem Ni{l:List Pr}{c:Nat}(hn:∀j,(hj:j<l.length)->l[j].l≠c):cD l c=none:=by
 induction l with
 |nil=>rfl
 |cons x r ih =>
  have h0:x.l≠c:=hn 0 (by simp);simp only[cD,if_neg h0];rw[ih (λj hj=>hn (j+1) (by simpa using hj))];rfl
theorem bf{a b:Nat}:((a:Int)==(b:Int))=decide (a=b):=by
 rw[Bool.eq_iff_iff,beq_iff_eq,decide_eq_true_eq];omega
theorem cO{w:World}{A:Nat}{f:CF}{av ov:Value}(c:Nat)(h:eP w A f av ov):
  Calls prog 208 #[.pointer (some ⟨A,0,none⟩),.int .i64 c] w λe w'=>e=.returned (.int .i64 (fU (cD f.ow c)))/\w'=w:=by
 obtain⟨ao,cap,gw,hm,Mq,hc⟩:=dQ h.ow;have h6:=h.c6;rw[gw]at h6;have HC:=ab hc;clear hc h gw;unfold maxLen at hm;go_enter func208,ntmps208;go_wp2_with fail
 go_loop [5] (λi=>∃k:Nat,k<=f.ow.length/\i=.int .i64 k/\Hid (∀j,(hj:j<f.ow.length)->j<k->f.ow[j].l≠c)) (λi=>f.ow.length-(intOf i).toNat)
 case atStart=>exact⟨0,zq5 _,rfl,λ_ _ h=>absurd h (by omega)⟩
 case round =>
  obtain⟨k,hk,rfl,d9⟩:=hrel;by_cases au:k<f.ow.length
  .obtain⟨g,s8,ax⟩:=uh HC (by intro h;rw[h]at au;simp at au);have xO:=(ax k au).2.1;clear ax;rw[s8]at h6;cases he:((f.ow[k].l:Int)==(c:Int)) with
   |true =>
    go_wp2_with fail
    go_ret;exact⟨bi (by rw[Tx au d9.out (by rw[bf]at he;simpa using he)];rfl),rfl⟩
   |false =>
    go_wp2_with fail
    go_round
    case rel =>
     refine⟨k+1,by omega,by go_num,λj hj IE=>?_⟩;by_cases aah:j=k
     .subst aah;intro e;rw[bf]at he;simp[e]at he
     .exact d9.out j hj (by omega)
    case measure=>simp[intOf];omega
  .have hd:decide ((k:Int)<(f.ow.length:Int))=false:=(by simp;omega);go_wp2_with fail
   go_ret;exact⟨bi (by rw[Ni (λj hj=>d9.out j hj (by omega))];rfl),rfl⟩
theorem sD(o:Option Nat):decide ((0:Int)<=fU o)=o.isSome:=by cases o <;> simp[fU]
theorem yS{w:World}{A:Nat}{f:CF}{av ov:Value}(a b:Nat)(h:eP w A f av ov):
  Calls prog 222 #[.pointer (some ⟨A,0,none⟩),.int .i64 a,.int .i64 b] w λe w'=>e=.returned (.bool (mG f a b))/\w'=w:=by
 have HA:=ab (cO a h);have HB:=ab (cO b h);have h0:=h.cls (i:=0) (by omega);unfold gZ at h0;obtain⟨c0,EB⟩:∃c0,c0=f.cl.getD 0 0:=⟨_,rfl⟩;rw[<-EB]at h0;have HC:=ab EB;clear h EB;go_enter func222,ntmps222;go_wp2_with fail
 refine(uh HA).mono ?_;rintro e w1 ⟨rfl,rfl⟩;have KT:=sD (cD f.ow a);cases h1:(cD f.ow a).isSome <;> rw[h1]at KT
 all_goals
  go_wp2_with fail
  refine(uh HB).mono ?_;rintro e w1 ⟨rfl,rfl⟩;have Pb:=sD (cD f.ow b);cases h2:(cD f.ow b).isSome <;> rw[h2]at Pb
 .go_wp2_with fail
  go_ret;exact⟨by unfold mG;rw[h1,h2];rfl,rfl⟩
 .cases h3:((a:Int)==(c0:Int)) <;>
  .go_wp2_with fail
   go_ret;exact⟨by unfold mG;rw[h1,h2,<-uh HC];rw[bf]at h3;simp at h3;simp[h3],rfl⟩
 .cases h3:((b:Int)==(c0:Int)) <;>
  .go_wp2_with fail
   go_ret;exact⟨by unfold mG;rw[h1,h2,<-uh HC];rw[bf]at h3;simp at h3;simp[h3],rfl⟩
 .go_wp2_with fail
  go_ret;exact⟨by unfold mG;rw[h1,h2];rfl,rfl⟩
def CP(a b:Nat)(p:Pr):Bool:=(p.l==a&&p.r==b)||(p.l==b&&p.r==a)
theorem NL{f:CF}{a b k:Nat}(aH:a≠b)(hk:k<f.ap.length)(h:CP a b f.ap[k]=true):aV f a b=true:=by
 unfold aV;rw[if_neg aH];have:f.ap.any (CP a b)=true:=any_eq_true.2 ⟨_,getElem_mem hk,h⟩;show(f.ap.any (CP a b)||mG f a b)=true;rw[this];rfl
theorem NN{f:CF}{a b:Nat}(aH:a≠b)(h:∀j,(hj:j<f.ap.length)->CP a b f.ap[j]=false):aV f a b=mG f a b:=by
 unfold aV;rw[if_neg aH];have:f.ap.any (CP a b)=false:=by
  rw[any_eq_false];intro p hp;obtain⟨j,hj,rfl⟩:=mem_iff_getElem.1 hp;rw[h j hj];simp
 show(f.ap.any (CP a b)||mG f a b)=_;rw[this];rfl
theorem l6{w:World}{A:Nat}{f:CF}{av ov:Value}(a b:Nat)(h:eP w A f av ov):
  Calls prog 245 #[.pointer (some ⟨A,0,none⟩),.int .i64 a,.int .i64 b] w λe w'=>e=.returned (.bool (aV f a b))/\Below w.heap.size w w':=by
 by_cases se:a=b
 .subst se;have he:((a:Int)==(a:Int))=true:=by simp
  go_enter func245,ntmps245;go_wp2_with fail
  go_ret;exact⟨by unfold aV;simp,Below.refl _ _⟩
 .have aH:((a:Int)==(b:Int))=false:=by rw[bf];simpa using se
  obtain⟨ao,cap,ko,hm,Mq,hc⟩:=dQ h.ap;have h5:=h.c5;rw[ko]at h5;have HC:=ab hc;have HF:=ab h;clear hc ko h;unfold maxLen at hm;go_enter func245,ntmps245;go_wp2_with fail
  go_loopw [17] (λi wr=>∃k:Nat,k<=f.ap.length/\i=.int .i64 k/\Hid (∀j,(hj:j<f.ap.length)->j<k->CP a b f.ap[j]=false)/\Below w.heap.size w wr) (λi _=>f.ap.length-(intOf i).toNat)
  case atStart=>exact⟨0,zq5 _,rfl,λ_ _ h=>absurd h (by omega),Below.refl _ _⟩
  case round =>
   obtain⟨k,hk,rfl,d9,cK⟩:=hrel;by_cases au:k<f.ap.length
   .obtain⟨g,s8,ax⟩:=uh HC (by intro h;rw[h]at au;simp at au);subst s8;obtain⟨EI,tp,pU⟩:=ax k au;have c0:=(cK.cell (block_lt_of_cell? w _ EI)).trans EI;have c1:=(cK.cell (block_lt_of_cell? w _ tp)).trans tp;have c2:=(cK.cell (block_lt_of_cell? w _ pU)).trans pU;clear ax EI tp pU;have HB:=ab cK;obtain⟨p,hp⟩:∃p,p=f.ap[k]:=⟨_,rfl⟩;rw[<-hp]at c0 c1 c2;have HP:=ab hp;clear cK hp;have HR:Hid (CP a b p=true->aV f a b=true):=ab (λh=>NL se au (by rw[<-uh HP];exact h));have HN:Hid (CP a b p=false->∀j,(hj:j<f.ap.length)->j<k+1->CP a b f.ap[j]=false):=ab (λh j hj IE=>by
     by_cases e:j=k
     .subst e;rw[<-uh HP];exact h
     .exact d9.out j hj (by omega))
    have round:CP a b p=false->(∃k_1:Nat,k_1<=f.ap.length/\Value.int IntKind.i64 ((k:Int)+1)=Value.int IntKind.i64 k_1/\Hid (∀(j:Nat) (hj:j<f.ap.length),j<k_1->CP a b f.ap[j]=false)/\Below w.heap.size w (wr.alloc (Obj.cells #[Value.int IntKind.i64 p.k,Value.int IntKind.i64 p.l,Value.int IntKind.i64 p.r] 182)))/\f.ap.length-(intOf (Value.int IntKind.i64 ((k:Int)+1))).toNat<f.ap.length-(intOf (Value.int IntKind.i64 (k:Int))).toNat:=λh =>
     ⟨⟨k+1,by omega,by go_num,ab (uh HN h),(uh HB).alloc (uh HB).size _⟩,by simp[intOf];omega⟩
    have HRo:=ab round;clear round;cases h1:((p.l:Int)==(a:Int)) with
    |true =>
     have hla:Hid (p.l=a):=ab (by rw[bf]at h1;simpa using h1);cases h2:((p.r:Int)==(b:Int)) with
     |true =>
      have FZ:Hid (p.r=b):=ab (by rw[bf]at h2;simpa using h2);go_wp2_with fail
      go_ret;exact⟨by rw[uh HR (by simp[CP,uh hla,uh FZ])];rfl,(uh HB).alloc (uh HB).size _⟩
     |false =>
      have h3:((p.l:Int)==(b:Int))=false:=(by rw[uh hla];exact aH);have FZ:Hid (p.r≠b):=ab (by rw[bf]at h2;simpa using h2);go_wp2_with fail
      exact uh HRo (by simp[CP,uh hla,uh FZ,se])
    |false =>
     have hla:Hid (p.l≠a):=ab (by rw[bf]at h1;simpa using h1);cases h3:((p.l:Int)==(b:Int)) with
     |true =>
      have EF:Hid (p.l=b):=ab (by rw[bf]at h3;simpa using h3);cases h4:((p.r:Int)==(a:Int)) with
      |true =>
       have hra:Hid (p.r=a):=ab (by rw[bf]at h4;simpa using h4);go_wp2_with fail
       go_ret;exact⟨by rw[uh HR (by simp[CP,uh EF,uh hra])];rfl,(uh HB).alloc (uh HB).size _⟩
      |false =>
       have hra:Hid (p.r≠a):=ab (by rw[bf]at h4;simpa using h4);go_wp2_with fail
       exact uh HRo (by simp[CP,uh hla,uh hra])
     |false =>
      have EF:Hid (p.l≠b):=ab (by rw[bf]at h3;simpa using h3);go_wp2_with fail
      exact uh HRo (by simp[CP,uh hla,uh EF])
   .have hd:decide ((k:Int)<(f.ap.length:Int))=false:=(by simp;omega);go_wp2_with fail
    refine(yS a b ((uh HF).of_eq (λk hk=>cK.block k ((uh HF).lt k hk)))).mono ?_;rintro e w1 ⟨rfl,rfl⟩;go_wp2_with fail
    go_ret;exact⟨by rw[NN se (λj hj=>d9.out j hj (by omega))];rfl,cK⟩
def Y2(V:CF):List Nat->Nat->Nat->Prop
 |[],_,_=>False
 |[i],a,e=>(V.ow.getD i ay).l=a/\(V.ow.getD i ay).r=e
 |i::j::r,a,e=>(V.ow.getD i ay).l=a/\Y2 V (j::r) (V.ow.getD i ay).r e
def jz(V T:CF)(b:Nat->Option Nat):List Nat->List Nat->Prop
 |[],fr=>fr=[]
 |k::ks,fr=>∃L rest,fr.Perm (L++rest)/\(∃a e,b (T.ow.getD k ay).l=some a/\b (T.ow.getD k ay).r=some e/\Y2 V L a e)/\((T.ow.getD k ay).k≠4->∃i,L=[i]/\(V.ow.getD i ay).k≠4)/\jz V T b ks rest
theorem jz.swap{V T:CF}{b:Nat->Option Nat}{j k:Nat}{ks fr:List Nat}(h:jz V T b (j::k::ks) fr):jz V T b (k::j::ks) fr:=by
 obtain⟨L,rest,h1,h2,h3,L2,rest2,h4,h5,h6,h7⟩:=h;refine⟨L2,L++rest2,?_,h5,h6,L,rest2,List.Perm.refl _,h2,h3,h7⟩;refine h1.trans ((List.Perm.append_left L h4).trans ?_);rw[<-append_assoc,<-append_assoc];exact List.Perm.append_right rest2 perm_append_comm
theorem jz.cons{V T:CF}{b:Nat->Option Nat}{k:Nat}{ks ks':List Nat}(h:∀fr,jz V T b ks fr->jz V T b ks' fr){fr:List Nat}(hd:jz V T b (k::ks) fr):jz V T b (k::ks') fr:=by
 obtain⟨L,rest,h1,h2,h3,h4⟩:=hd;exact⟨L,rest,h1,h2,h3,h _ h4⟩
theorem jz.permK{V T:CF}{b:Nat->Option Nat}{ks ks':List Nat}(h:ks.Perm ks'):∀{fr:List Nat},jz V T b ks fr->jz V T b ks' fr:=by
 induction h with
 |nil=>intro fr h;exact h
 |cons k _ ih=>intro fr hd;exact jz.cons (λ_ h=>ih h) hd
 |swap j k r=>intro fr hd;exact jz.swap hd
 |trans _ _ h1 h2=>intro fr hd;exact h2 (h1 hd)
def sX(s:SS):List Nat:=(range s.ot.length).filter (λi=>(s.ot.getD i none).isNone)
def uP(s:SS):List Nat:=(range s.pl.length).filter (λk=>!s.pl.getD k false)
structure Wf(V T:CF)(s:SS):Prop where
 lo:s.ot.length=V.ow.length
 lp:s.pl.length=T.ow.length
 lb:s.bd.length=24
 un:s.un=(sX s).length
theorem dq{α:Type}(l:List α)(i j:Nat)(x d:α)(h:i<l.length):(l.set i x).getD j d=if i=j then x else l.getD j d:=by
 simp only[getD_eq_getElem?_getD,getElem?_set];by_cases e:i=j
 .subst e;simp[h]
 .simp[e]
theorem j7{α:Type}(l:List α)(i:Nat)(d:α):l.set i (l.getD i d)=l:=by
 apply ext_getElem?;intro n;by_cases hn:i=n
 .subst hn;by_cases h:i<l.length
  .simp[h]
  .simp[h]
 .simp[hn]
theorem mV{p q:Nat->Bool}{l:List Nat}{i:Nat}(hl:l.Nodup)(hi:i∈l)(hp:p i=true)(hq:q i=false)(h:∀j,j≠i->q j=p j):(l.filter p).Perm (i::l.filter q):=by
 induction l with
 |nil=>cases hi
 |cons a l ih =>
  have hn:=nodup_cons.1 hl;by_cases e:a=i
  .subst e;have:l.filter q=l.filter p:=filter_congr (λj hj=>h j (λe=>hn.1 (e ▸ hj)));simp[hp,hq,this]
  .have hm:i∈l:=by
    rcases mem_cons.1 hi with h|h
    .exact absurd h.symm e
    .exact h
   have h2:=h a e;cases UI:p a with
   |true =>
    rw[filter_cons_of_pos UI,filter_cons_of_pos (by rw[h2,UI])];exact(List.Perm.cons a (ih hn.2 hm)).trans (List.Perm.swap i a _)
   |false =>
    rw[filter_cons_of_neg (by simp[UI]),filter_cons_of_neg (by simp[h2,UI])];exact ih hn.2 hm
theorem CX{s:SS}{i k:Nat}(hi:i<s.ot.length)(hn:s.ot.getD i none=none){s':SS}(h:s'.ot=s.ot.set i (some k)):(sX s).Perm (i::sX s'):=by
 unfold sX;rw[h,length_set];refine mV nodup_range (mem_range.2 hi) (by rw[hn];rfl) (by rw[dq _ _ _ _ _ hi];simp) (λj hj=>?_);rw[dq _ _ _ _ _ hi,if_neg (λe=>hj e.symm)]
theorem JT{s:SS}{k:Nat}(hk:k∈uP s){s':SS}(h:s'.pl=s.pl.set k true):(uP s).Perm (k::uP s'):=by
 have h1:=mem_filter.1 hk;have hi:=mem_range.1 h1.1;unfold uP;rw[h,length_set];refine mV nodup_range h1.1 h1.2 (by rw[dq _ _ _ _ _ hi];simp) (λj hj=>?_);rw[dq _ _ _ _ _ hi,if_neg (λe=>hj e.symm)]
def Ext(s s':SS):Prop:=∀c a,s.b c=some a->s'.b c=some a
theorem CJ{l:List Pr}{c i:Nat}(h:cD l c=some i):i<l.length/\(l.getD i ay).l=c:=by
 induction l generalizing i with
 |nil=>cases h
 |cons p r ih =>
  simp only[cD]at h;split at h
  .cases h;exact⟨by simp,by simpa⟩
  .obtain⟨j,hj,rfl⟩:=Option.map_eq_some_iff.1 h;have:=ih hj;exact⟨by simp;omega,by simpa using this.2⟩
theorem Nq{T:CF}{s:SS}:∀{l:List Nat} {o:Option Nat} {k:Nat},Sm T s l o=some k->(k∈l/\s.pl.getD k false=false)\/o=some k:=by
 intro l;induction l with
 |nil=>intro o k h;exact zq1 h
 |cons a l ih =>
  intro o k h;simp only[Sm]at h;split at h
  .rcases ih h with h1|h1
   .exact zq0 ⟨by simp[h1.1],h1.2⟩
   .exact zq1 h1
  .rename_i hp;split at h
   .cases h;exact zq0 ⟨by simp,by simpa using hp⟩
   .rcases ih h with h1|h1
    .exact zq0 ⟨by simp[h1.1],h1.2⟩
    .split at h1
     .exact zq1 h1
     .cases h1;exact zq0 ⟨by simp,by simpa using hp⟩
theorem CL{T:CF}{s:SS}{k:Nat}(h:Y3 T s=some k):k∈uP s:=by
 rcases Nq h with h1|h1
 .exact mem_filter.2 ⟨h1.1,by rw[h1.2];rfl⟩
 .cases h1
def Rm(T:CF):Prop:=∀p∈T.ow,p.l<24/\p.r<24
theorem Rm.at{T:CF}(h:Rm T)(k:Nat):(T.ow.getD k ay).l<24/\(T.ow.getD k ay).r<24:=by
 by_cases hk:k<T.ow.length
 .have:T.ow.getD k ay=T.ow[k]:=by simp[hk]
  rw[this];exact h _ (getElem_mem hk)
 .simp[getD_eq_getElem?_getD,getElem?_eq_none (Nat.le_of_not_lt hk),ay]
def YP(V T:CF)(W:SS->Nat->Nat->Nat->Bool × SS):Prop :=
 ∀s k at_ count,Wf V T s->k∈uP s->(uP s).length+count=T.ow.length->∀b s',W s k at_ count=(b,s') ->
  (b=false->s'={ s with st:=s'.st }) /\
  (b=true->Ext s s'/\L9 V T s'=true/\s'.bd.length=24/\∃L rest,(sX s).Perm (L++rest)/\(∃e,s'.b (T.ow.getD k ay).r=some e/\Y2 V L at_ e)/\((T.ow.getD k ay).k≠4->∃i,L=[i]/\(V.ow.getD i ay).k≠4)/\jz V T s'.b ((uP s).erase k) rest)
def YK(V T:CF)(P:SS->Nat->Bool × SS):Prop :=
 ∀s count,Wf V T s->(uP s).length+count=T.ow.length->∀b s',P s count=(b,s') ->
  (b=false->s'={ s with st:=s'.st }) /\
  (b=true->Ext s s'/\L9 V T s'=true/\s'.bd.length=24/\jz V T s'.b (uP s) (sX s))
theorem vD{V T:CF}{b:Nat->Option Nat}{U fr L rest:List Nat}{k a:Nat}(hk:k∈U)(h1:fr.Perm (L++rest))(ha:b (T.ow.getD k ay).l=some a)(h2:∃e,b (T.ow.getD k ay).r=some e/\Y2 V L a e)(h3:(T.ow.getD k ay).k≠4->∃i,L=[i]/\(V.ow.getD i ay).k≠4)(h4:jz V T b (U.erase k) rest):jz V T b U fr:=by
 refine jz.permK (perm_cons_erase hk).symm ⟨L,rest,h1,?_,h3,h4⟩;obtain⟨e,he,hc⟩:=h2;exact⟨a,e,ha,he,hc⟩
theorem abu{V T:CF}{W:SS->Nat->Nat->Nat->Bool × SS}(hW:YP V T W){k left count:Nat}(hl:left<24)(m8:left=(T.ow.getD k ay).l):∀(l:List Pr) (s:SS),Wf V T s->k∈uP s->(uP s).length+count=T.ow.length->∀b s',Gx W k left count l s=(b,s') ->
  (b=false->s'={ s with st:=s'.st,bd:=s.bd.set left none }) /\
  (b=true->(∀c a,c≠left->s.b c=some a->s'.b c=some a)/\L9 V T s'=true/\s'.bd.length=24/\jz V T s'.b (uP s) (sX s)):=by
 intro l;induction l with
 |nil =>
  intro s hw hk hc b s' h;simp only[Gx]at h;cases h
  exact⟨λ_=>rfl,λh=>by cases h⟩
 |cons p r ih =>
  intro s hw hk hc b s' h;simp only[Gx]at h;have tj:Wf V T { s with bd:=s.bd.set left (some p.l) }:=⟨hw.lo,hw.lp,by simpa using hw.lb,hw.un⟩;cases hr:W { s with bd:=s.bd.set left (some p.l) } k p.l count with
  |mk b2 s2 =>
   rw[hr]at h;have hx:=hW _ _ _ _ tj hk hc _ _ hr;cases b2 with
   |true =>
    cases h
    refine⟨λh=>(by cases h),λ_=>?_⟩;obtain⟨he,eJ,Cg,L,rest,h1,h2,h3,h4⟩:=hx.2 rfl;have cS:∀c,({ s with bd:=s.bd.set left (some p.l) }:SS).b c=if left=c then some p.l else s.b c:=λc=>dq _ _ _ _ _ (by rw[hw.lb];exact hl)
    refine⟨λc a dT ha=>he c a (by rw[cS,if_neg (λe=>dT e.symm)];exact ha),eJ,Cg,?_⟩;exact vD hk h1 (by rw[<-m8];exact he left p.l (by rw[cS,if_pos rfl])) h2 h3 h4
   |false =>
    have h5:=hx.1 rfl;have e2:(uP s2)=uP s:=(by rw[h5];rfl);have e3:(sX s2)=sX s:=(by rw[h5];rfl);have IK:Wf V T s2:=(by rw[h5];exact⟨hw.lo,hw.lp,by simpa using hw.lb,hw.un⟩);have hy:=ih s2 IK (by rw[e2];exact hk) (by rw[e2];exact hc) _ _ h;refine⟨λhb=>?_,λhb=>?_⟩
    .have h6:=hy.1 hb;rw[h6,h5];simp
    .obtain⟨g1,g2,g3,g4⟩:=hy.2 hb;rw[e2,e3]at g4;refine⟨λc a dT ha=>g1 c a dT ?_,g2,g3,g4⟩;rw[h5];show(s.bd.set left (some p.l)).getD c none=some a;rw[dq _ _ _ _ _ (by rw[hw.lb];exact hl),if_neg (λe=>dT e.symm)];exact ha
theorem BC{V T:CF}(hT:Rm T){W:SS->Nat->Nat->Nat->Bool × SS}(hW:YP V T W):YK V T (zC W V T):=by
 intro s count hw hc b s' h;unfold zC at h;by_cases h0:T.ow.length=count
 .rw[if_pos h0]at h;cases h
  refine⟨λ_=>rfl,λhb=>?_⟩;simp only[Bool.and_eq_true,decide_eq_true_eq]at hb;have hu:uP s=[]:=eq_nil_of_length_eq_zero (by omega);have hf:sX s=[]:=eq_nil_of_length_eq_zero (by rw[<-hw.un];exact hb.1);exact⟨λ_ _ h=>h,hb.2,hw.lb,by rw[hu,hf];rfl⟩
 .rw[if_neg h0]at h;by_cases h1:s.un<T.ow.length-count
  .rw[if_pos h1]at h;cases h;exact⟨λ_=>rfl,λhb=>by cases hb⟩
  .rw[if_neg h1]at h;cases pS:Y3 T s with
   |none=>rw[pS]at h;cases h;exact⟨λ_=>rfl,λhb=>by cases hb⟩
   |some k =>
    rw[pS]at h;dsimp only at h;have hk:=CL pS;cases hb:s.b (T.ow.getD k ay).l with
    |some a =>
     rw[hb]at h;have hx:=hW _ _ _ _ hw hk hc _ _ h;refine⟨hx.1,λyh=>?_⟩;obtain⟨he,eJ,Cg,L,rest,g1,g2,g3,g4⟩:=hx.2 yh;exact⟨he,eJ,Cg,vD hk g1 (he _ _ hb) g2 g3 g4⟩
    |none =>
     rw[hb]at h;have hx:=abu hW (hT.at k).1 rfl _ _ hw hk hc _ _ h;refine⟨λZ3=>?_,λyh=>?_⟩
     .have h6:=hx.1 Z3;rw[h6];have:s.bd.set (T.ow.getD k ay).l none=s.bd:=by
       have:=j7 s.bd (T.ow.getD k ay).l none;rw[show s.bd.getD (T.ow.getD k ay).l none=none from hb]at this;exact this
      rw[this]
     .obtain⟨g1,g2,g3,g4⟩:=hx.2 yh;refine⟨λc a ha=>g1 c a (λe=>?_) ha,g2,g3,g4⟩;rw[e,hb]at ha;cases ha
theorem NX{V T:CF}(hT:Rm T){P:SS->Nat->Bool × SS}(hP:YK V T P){s:SS}{k at_ count:Nat}(hw:Wf V T s)(hk:k∈uP s)(hc:(uP s).length+count=T.ow.length){b:Bool}{s':SS}(h:Fo P T s k at_ count=(b,s')):
  (b=false->s'={ s with st:=s'.st })/\(b=true->Ext s s'/\L9 V T s'=true/\s'.bd.length=24/\s'.b (T.ow.getD k ay).r=some at_/\jz V T s'.b ((uP s).erase k) (sX s)):=by
 unfold Fo at h;by_cases h0:s.b (T.ow.getD k ay).r≠none/\s.b (T.ow.getD k ay).r≠some at_
 .rw[if_pos h0]at h;cases h;exact⟨λ_=>rfl,λhb=>by cases hb⟩
 .rw[if_neg h0]at h;have tj:Wf V T { s with bd:=s.bd.set (T.ow.getD k ay).r (some at_),pl:=s.pl.set k true }:=⟨hw.lo,by simpa using hw.lp,by simpa using hw.lb,hw.un⟩;have EH:=JT (s:=s) hk (s':={ s with bd:=s.bd.set (T.ow.getD k ay).r (some at_),pl:=s.pl.set k true }) rfl;have m8:=EH.length_eq;rw[length_cons]at m8;have cS:∀c,({ s with bd:=s.bd.set (T.ow.getD k ay).r (some at_),pl:=s.pl.set k true }:SS).b c=if (T.ow.getD k ay).r=c then some at_ else s.b c:=λc=>dq _ _ _ _ _ (by rw[hw.lb];exact(hT.at k).2)
  cases hr:P { s with bd:=s.bd.set (T.ow.getD k ay).r (some at_),pl:=s.pl.set k true } (count+1) with
  |mk b2 s2 =>
   rw[hr]at h;have hx:=hP _ _ tj (by omega) _ _ hr;cases b2 with
   |true =>
    cases h
    refine⟨λh=>(by cases h),λ_=>?_⟩;obtain⟨he,eJ,Cg,hd⟩:=hx.2 rfl;refine⟨λc a ha=>he c a ?_,eJ,Cg,he _ _ (by rw[cS,if_pos rfl]),jz.permK ?_ hd⟩
    .rw[cS];by_cases e:(T.ow.getD k ay).r=c
     .rw[if_pos e];subst e;by_cases e2:a=at_
      .rw[e2]
      .exact absurd ⟨by rw[ha];simp,by rw[ha];simpa using e2⟩ h0
     .rw[if_neg e];exact ha
    .exact(perm_cons k).1 (EH.symm.trans (perm_cons_erase hk))
   |false =>
    cases h
    refine⟨λ_=>?_,λh=>by cases h⟩;have h5:=hx.1 rfl;rw[h5];have e1:(s.bd.set (T.ow.getD k ay).r (some at_)).set (T.ow.getD k ay).r (s.b (T.ow.getD k ay).r)=s.bd:=by
     rw[set_set];exact j7 _ _ _
    have e2:(s.pl.set k true).set k false=s.pl:=by
     rw[set_set];have:=j7 s.pl k false;rwa [show s.pl.getD k false=false by simpa using (mem_filter.1 hk).2]at this
    simp only[e1,e2]
theorem Nr{V:CF}{i:Nat}{L:List Nat}{e:Nat}(h:Y2 V L (V.ow.getD i ay).r e):Y2 V (i::L) (V.ow.getD i ay).l e:=by
 cases L with
 |nil=>exact h.elim
 |cons j r=>exact⟨rfl,h⟩
theorem Eh{V T:CF}(hT:Rm T):∀m,YP V T (wk V T m):=by
 intro m;induction m with
 |zero =>
  intro s k at_ count hw hk hc b s' h;simp only[wk]at h;cases h
  exact⟨λ_=>rfl,λhb=>by cases hb⟩
 |succ m ih =>
  intro s k at_ count hw hk hc b s' h;simp only[wk]at h;by_cases h0:wrap64 (s.st-1)<0
  .rw[if_pos h0]at h;cases h;exact⟨λ_=>rfl,λhb=>by cases hb⟩
  .rw[if_neg h0]at h;cases nV:cD V.ow at_ with
   |none=>rw[nV]at h;cases h;exact⟨λ_=>rfl,λhb=>by cases hb⟩
   |some i =>
    rw[nV]at h;dsimp only at h;obtain⟨hi,um⟩:=CJ nV;by_cases h1:s.ot.getD i none≠none
    .rw[if_pos h1]at h;cases h;exact⟨λ_=>rfl,λhb=>by cases hb⟩
    .rw[if_neg h1]at h;have hn:s.ot.getD i none=none:=Classical.byContradiction h1;by_cases h2:(T.ow.getD k ay).k≠4/\(V.ow.getD i ay).k=4
     .rw[if_pos h2]at h;cases h;exact⟨λ_=>rfl,λhb=>by cases hb⟩
     .rw[if_neg h2]at h;have KX:i<s.ot.length:=(by rw[hw.lo];exact hi);obtain⟨s1,dy⟩:∃s1:SS,s1={ s with st:=wrap64 (s.st-1),ot:=s.ot.set i (some k),un:=s.un-1 }:=⟨_,rfl⟩;rw[<-dy]at h;have lQ:(sX s).Perm (i::sX s1):=CX KX hn (by rw[dy]);have ju:=lQ.length_eq;rw[length_cons]at ju;have zn:Wf V T s1:=by
       refine⟨by rw[dy];simpa using hw.lo,by rw[dy];exact hw.lp,by rw[dy];exact hw.lb,?_⟩;have h3:s1.un=s.un-1:=(by rw[dy]);have h4:=hw.un;omega
      have hu1:uP s1=uP s:=(by rw[dy];rfl);have af9:(T.ow.getD k ay).k≠4->(V.ow.getD i ay).k≠4:=λa b=>h2 ⟨a,b⟩;cases hr:Fo (zC (wk V T m) V T) T s1 k (V.ow.getD i ay).r count with
      |mk b2 s2 =>
       rw[hr]at h;have hx:=NX hT (BC hT ih) zn (by rw[hu1];exact hk) (by rw[hu1];exact hc) hr;cases b2 with
       |true =>
        cases h
        refine⟨λh=>(by cases h),λ_=>?_⟩;obtain⟨he,eJ,Cg,hbr,hd⟩:=hx.2 rfl;rw[hu1]at hd;refine⟨λc a ha=>he c a (by rw[dy];exact ha),eJ,Cg,[i],sX s1,lQ,⟨_,hbr,um,rfl⟩,λxR=>⟨i,rfl,af9 xR⟩,hd⟩
       |false =>
        dsimp only at h;have h5:=hx.1 rfl;have hu2:uP s2=uP s:=(by rw[h5];exact hu1);have mJ:sX s2=sX s1:=(by rw[h5];rfl);have tj:Wf V T s2:=(by rw[h5];exact⟨zn.lo,zn.lp,zn.lb,zn.un⟩);have Xm:∀s3:SS,s3={ s1 with st:=s3.st }->({ s3 with ot:=s3.ot.set i none,un:=s3.un+1 }:SS)={ s with st:=s3.st }:=by
         intro s3 h3;rw[h3,dy];have e1:(s.ot.set i (some k)).set i none=s.ot:=by
          rw[set_set];have:=j7 s.ot i none;rwa [hn]at this
         have e2:s.un-1+1=s.un:=(by have:=hw.un;omega);simp only[e1,e2]
        by_cases xR:(T.ow.getD k ay).k=4
        .rw[if_pos xR]at h;cases hr3:wk V T m s2 k (V.ow.getD i ay).r count with
         |mk b3 s3 =>
          rw[hr3]at h;have hy:=ih _ _ _ _ tj (by rw[hu2];exact hk) (by rw[hu2];exact hc) _ _ hr3;cases b3 with
          |true =>
           cases h
           refine⟨λh=>(by cases h),λ_=>?_⟩;obtain⟨he,eJ,Cg,L,rest,g1,⟨e,g2,g2'⟩,_,g4⟩:=hy.2 rfl;rw[hu2]at g4;rw[mJ]at g1;refine⟨λc a ha=>he c a (by rw[h5,dy];exact ha),eJ,Cg,i::L,rest,lQ.trans (List.Perm.cons i g1),⟨e,g2,by rw[<-um];exact Nr g2'⟩,λhx4=>absurd xR hx4,g4⟩
          |false =>
           cases h
           refine⟨λ_=>?_,λh=>by cases h⟩;have h6:=hy.1 rfl;have h7:s3={ s1 with st:=s3.st }:=(by rw[h6,h5]);exact Xm s3 h7
        .rw[if_neg xR]at h;cases h
         exact⟨λ_=>Xm s2 h5,λh=>by cases h⟩
def XZ(A:Nat):Value:=.pointer (some ⟨A,0,none⟩)
def ie(F0 T0:Nat)(an:List (Option Nat)):List Value:=[XZ F0,XZ T0]++a9 an
def Jy(V0:Nat)(s:SS)(ov pv:Value):List Value:=[XZ V0,ov,.int .i64 (s.un:Int),pv,.int .i64 s.st]
def nG(F0 T0 V0:Nat)(an:List (Option Nat))(s:SS)(ov pv:Value):List Value:=ie F0 T0 an++(a9 s.bd++Jy V0 s ov pv)
def Fx(Q:Nat)(ov pv:Value):List Nat:=Q::(ov.ownBlock.toList++pv.ownBlock.toList)
structure rL where
 q:Nat
 f:Nat
 t:Nat
 v:Nat
 an:List (Option Nat)
 tav:Value
 tov:Value
 vav:Value
 vov:Value
 ov:Value
 pv:Value
def rL.fp(y:rL):List Nat:=Fx y.q y.ov y.pv
structure Sw(w:World)(y:rL)(T V:CF)(s:SS):Prop where
 ob:Ob w 202 55 y.q (nG y.f y.t y.v y.an s y.ov y.pv)
 la:y.an.length=24
 lb:s.bd.length=24
 ow:w.ownsRow 0 3 1 y.ov s.ot.length (a9 s.ot)
 pl:w.ownsRow 0 4 1 y.pv s.pl.length (s.pl.map Value.bool)
 nd:y.fp.Nodup
 ft:eP w y.t T y.tav y.tov
 fv:eP w y.v V y.vav y.vov
 dt:∀k∈aG y.t y.tav y.tov,k ∉ y.fp
 dv:∀k∈aG y.v y.vav y.vov,k ∉ y.fp
section
variable {w w':World} {y:rL} {T V:CF} {s s':SS}
theorem aO(l:List (Option Nat)):(a9 l).length=l.length:=by simp[a9]
theorem gl(h:Sw w y T V s):(ie y.f y.t y.an).length=26:=by simp[ie,aO,h.la]
theorem Sw.qlt(h:Sw w y T V s):∀k∈y.fp,k<w.heap.size:=by
 intro k hk;simp only[rL.fp,Fx,mem_cons,mem_append,Option.mem_toList]at hk;rcases hk with rfl|hk|hk
 .exact(ownsRow.lt h.ob _ rfl).2
 .exact(h.ow.lt k hk).2
 .exact(h.pl.lt k hk).2
theorem Sw.frz(h:Sw w y T V s)(j:Nat):w.frozen? ⟨y.q,j,none⟩=false:=ownsRow.frozenAt h.ob j
theorem Sw.c1(h:Sw w y T V s):w.cell? ⟨y.q,1,none⟩=some (.pointer (some ⟨y.t,0,none⟩)):=by rw[ownsRow.cellAt h.ob 1 (by omega)];rfl
theorem Sw.tail(h:Sw w y T V s){j:Nat}(hj:j<5):w.cell? ⟨y.q,50+j,none⟩=(Jy y.v s y.ov y.pv)[j]?:=by
 rw[ownsRow.cellAt h.ob (50+j) (by omega)];unfold nG;rw[getElem?_append_right (by rw[gl h];omega),gl h,getElem?_append_right (by rw[aO,h.lb];omega),aO,h.lb];rw[show 50+j-26-24=j by omega]
theorem Sw.cv(h:Sw w y T V s):w.cell? ⟨y.q,50,none⟩=some (.pointer (some ⟨y.v,0,none⟩)):=h.tail (j:=0) (by omega)
theorem Sw.co(h:Sw w y T V s):w.cell? ⟨y.q,51,none⟩=some y.ov:=h.tail (j:=1) (by omega)
theorem Sw.cu(h:Sw w y T V s):w.cell? ⟨y.q,52,none⟩=some (.int .i64 (s.un:Int)):=h.tail (j:=2) (by omega)
theorem Sw.cp(h:Sw w y T V s):w.cell? ⟨y.q,53,none⟩=some y.pv:=h.tail (j:=3) (by omega)
theorem Sw.cs(h:Sw w y T V s):w.cell? ⟨y.q,54,none⟩=some (.int .i64 s.st):=h.tail (j:=4) (by omega)
theorem Sw.cb(h:Sw w y T V s){r:Nat}(hr:r<24):w.cell? ⟨y.q,26+r,none⟩=some (.int .i64 (fU (s.b r))):=by
 rw[ownsRow.cellAt h.ob (26+r) (by omega)];unfold nG;rw[getElem?_append_right (by rw[gl h];omega),gl h,getElem?_append_left (by rw[aO,h.lb];omega)];rw[show 26+r-26=r by omega];have hl:r<s.bd.length:=by rw[h.lb];exact hr
 simp[a9,SS.b,hl]
theorem Sw.setQ(h:Sw w y T V s){j:Nat}{u:Value}(hq:(nG y.f y.t y.v y.an s y.ov y.pv).set j u=nG y.f y.t y.v y.an s' y.ov y.pv)(h1:s'.bd.length=24)(h2:s'.ot=s.ot)(h3:s'.pl=s.pl):Sw (w.setCell ⟨y.q,j,none⟩ u) y T V s':=by
 have tf:=(ownsRow.stored h.ob j u).1;rw[hq]at tf;have hn:=h.nd;simp only[rL.fp,Fx,nodup_cons,mem_append,Option.mem_toList,not_or]at hn;have iI:∀k,k≠y.q->(w.setCell ⟨y.q,j,none⟩ u).heap[k]?=w.heap[k]?:=λk hk=>heap_setCell _ _ _ _ (λe=>hk e);refine⟨tf,h.la,h1,?_,?_,h.nd,?_,?_,h.dt,h.dv⟩
 .rw[h2];exact ae h.ow (λk hk=>iI k (by rintro rfl;exact hn.1.1 hk))
 .rw[h3];exact ae h.pl (λk hk=>iI k (by rintro rfl;exact hn.1.2 hk))
 .exact h.ft.of_eq (λk hk=>iI k (by rintro rfl;exact h.dt _ hk (by simp[rL.fp,Fx])))
 .exact h.fv.of_eq (λk hk=>iI k (by rintro rfl;exact h.dv _ hk (by simp[rL.fp,Fx])))
theorem Sw.setB(h:Sw w y T V s){r:Nat}(hr:r<24)(o:Option Nat):Sw (w.setCell ⟨y.q,26+r,none⟩ (.int .i64 (fU o))) y T V { s with bd:=s.bd.set r o }:=by
 refine h.setQ ?_ (by simpa using h.lb) rfl rfl;unfold nG;rw[set_append_right (26+r) _ (by rw[gl h];omega),gl h,show 26+r-26=r by omega,set_append_left r _ (by rw[aO,h.lb];exact hr)];congr 2;simp[a9,map_set]
theorem Sw.setT(h:Sw w y T V s){j:Nat}{u:Value}(h1:(Jy y.v s y.ov y.pv).set j u=Jy y.v s' y.ov y.pv)(hb:s'.bd=s.bd)(h2:s'.ot=s.ot)(h3:s'.pl=s.pl):Sw (w.setCell ⟨y.q,50+j,none⟩ u) y T V s':=by
 refine h.setQ ?_ (by rw[hb];exact h.lb) h2 h3;unfold nG;rw[set_append_right (50+j) _ (by rw[gl h];omega),gl h,set_append_right (50+j-26) _ (by rw[aO,h.lb];omega),aO,h.lb,show 50+j-26-24=j by omega,h1,hb]
theorem Sw.setUn(h:Sw w y T V s)(n:Nat):Sw (w.setCell ⟨y.q,52,none⟩ (.int .i64 (n:Int))) y T V { s with un:=n }:=h.setT (j:=2) rfl rfl rfl rfl
theorem Sw.setSt(h:Sw w y T V s)(n:Int):Sw (w.setCell ⟨y.q,54,none⟩ (.int .i64 n)) y T V { s with st:=n }:=h.setT (j:=4) rfl rfl rfl rfl
theorem Sw.own(h:Sw w y T V s)(hn:s.ot≠[]):∃O cap,y.ov=.slice (some ⟨O,0,none⟩) s.ot.length cap/\s.ot.length<=cap/\cap<=maxLen/\(∀i,i<s.ot.length->w.cell? ⟨O,i,none⟩=some (.int .i64 (fU (s.ot.getD i none))))/\(∀j,w.frozen? ⟨O,j,none⟩=false):=by
 have ho:=h.ow;rcases h.ow.2 with⟨_,h0⟩|⟨O,cap,cur,hv,_,_,Mq,hm,_⟩
 .exact absurd (eq_nil_of_length_eq_zero h0) hn
 .rw[hv]at ho;refine⟨O,cap,hv,Mq,hm,λi hi=>?_,λj=>ho.frozenAt j⟩;rw[ho.cellAt i (by omega)];simp[a9,hi]
theorem Sw.plc(h:Sw w y T V s)(hn:s.pl≠[]):∃L cap,y.pv=.slice (some ⟨L,0,none⟩) s.pl.length cap/\s.pl.length<=cap/\cap<=maxLen/\(∀i,i<s.pl.length->w.cell? ⟨L,i,none⟩=some (.bool (s.pl.getD i false)))/\(∀j,w.frozen? ⟨L,j,none⟩=false):=by
 have ho:=h.pl;rcases h.pl.2 with⟨_,h0⟩|⟨O,cap,cur,hv,_,_,Mq,hm,_⟩
 .exact absurd (eq_nil_of_length_eq_zero h0) hn
 .rw[hv]at ho;refine⟨O,cap,hv,Mq,hm,λi hi=>?_,λj=>ho.frozenAt j⟩;rw[ho.cellAt i (by omega)];simp[hi]
theorem Sw.setO(h:Sw w y T V s){O cap:Nat}(hv:y.ov=.slice (some ⟨O,0,none⟩) s.ot.length cap)(i:Nat)(o:Option Nat):Sw (w.setCell ⟨O,i,none⟩ (.int .i64 (fU o))) y T V { s with ot:=s.ot.set i o }:=by
 have ho:=h.ow;rw[hv]at ho;have aP:=(ho.stored i (.int .i64 (fU o))).1;have hm:O∈y.fp:=by simp[rL.fp,Fx,hv,Value.ownBlock]
 have hn:=h.nd;simp only[rL.fp,Fx,nodup_cons,mem_append,Option.mem_toList,not_or,nodup_append]at hn;have tf:y.ov.ownBlock=some O:=by rw[hv];rfl
 have iI:∀k,k≠O->(w.setCell ⟨O,i,none⟩ (.int .i64 (fU o))).heap[k]?=w.heap[k]?:=λk hk=>heap_setCell _ _ _ _ (λe=>hk e);refine⟨h.ob.of_eq (iI _ (λe=>hn.1.1 (by rw[tf,e]))),h.la,h.lb,?_,?_,h.nd,?_,?_,h.dt,h.dv⟩
 .rw[hv];have e:(a9 s.ot).set i (.int .i64 (fU o))=a9 (s.ot.set i o):=by simp[a9,map_set]
  rw[e]at aP;simpa using aP
 .exact ae h.pl (λk hk=>iI k (by rintro rfl;exact hn.2.2.2 _ tf _ hk rfl))
 .exact h.ft.of_eq (λk hk=>iI k (by rintro rfl;exact h.dt _ hk hm))
 .exact h.fv.of_eq (λk hk=>iI k (by rintro rfl;exact h.dv _ hk hm))
theorem Sw.setP(h:Sw w y T V s){O cap:Nat}(hv:y.pv=.slice (some ⟨O,0,none⟩) s.pl.length cap)(i:Nat)(o:Bool):Sw (w.setCell ⟨O,i,none⟩ (.bool o)) y T V { s with pl:=s.pl.set i o }:=by
 have ho:=h.pl;rw[hv]at ho;have aP:=(ho.stored i (.bool o)).1;have hm:O∈y.fp:=by simp[rL.fp,Fx,hv,Value.ownBlock]
 have hn:=h.nd;simp only[rL.fp,Fx,nodup_cons,mem_append,Option.mem_toList,not_or,nodup_append]at hn;have tf:y.pv.ownBlock=some O:=by rw[hv];rfl
 have iI:∀k,k≠O->(w.setCell ⟨O,i,none⟩ (.bool o)).heap[k]?=w.heap[k]?:=λk hk=>heap_setCell _ _ _ _ (λe=>hk e);refine⟨h.ob.of_eq (iI _ (λe=>hn.1.2 (by rw[tf,e]))),h.la,h.lb,?_,?_,h.nd,?_,?_,h.dt,h.dv⟩
 .exact ae h.ow (λk hk=>iI k (by rintro rfl;exact hn.2.2.2 _ hk _ tf rfl))
 .rw[hv];have e:(s.pl.map Value.bool).set i (.bool o)=(s.pl.set i o).map Value.bool:=by simp[map_set]
  rw[e]at aP;simpa using aP
 .exact h.ft.of_eq (λk hk=>iI k (by rintro rfl;exact h.dt _ hk hm))
 .exact h.fv.of_eq (λk hk=>iI k (by rintro rfl;exact h.dv _ hk hm))
theorem Sw.of_eq(h:Sw w y T V s)(he:∀k,k<w.heap.size->w'.heap[k]?=w.heap[k]?):Sw w' y T V s :=
 ⟨h.ob.of_eq (he _ (ownsRow.lt h.ob _ rfl).2),h.la,h.lb,ae h.ow (λk hk=>he k (h.ow.lt k hk).2),ae h.pl (λk hk=>he k (h.pl.lt k hk).2),h.nd,
  h.ft.of_eq (λk hk=>he k (h.ft.lt k hk)),h.fv.of_eq (λk hk=>he k (h.fv.lt k hk)),h.dt,h.dv⟩
theorem Sw.below(h:Sw w y T V s)(hb:Below w.heap.size w w'):Sw w' y T V s:=h.of_eq (λk hk=>hb.block k hk)
theorem Sw.memQ(y:rL):y.q∈y.fp:=by simp[rL.fp,Fx]
theorem Sw.memO{O n cap:Nat}(hv:y.ov=.slice (some ⟨O,0,none⟩) n cap):O∈y.fp:=by simp[rL.fp,Fx,hv,Value.ownBlock]
theorem Sw.memP{O n cap:Nat}(hv:y.pv=.slice (some ⟨O,0,none⟩) n cap):O∈y.fp:=by simp[rL.fp,Fx,hv,Value.ownBlock]
end
def PlC(y:rL)(T V:CF)(m:Nat)(P:SS->Nat->Bool × SS):Prop :=
 ∀(w:World) (s:SS) (count:Nat),Sw w y T V s->Wf V T s->s.un<m->(uP s).length+count=T.ow.length ->
  Calls prog 177 #[.pointer (some ⟨y.q,0,none⟩),.int .i64 count] w λe w'=>e=.returned (.bool (P s count).1)/\Sw w' y T V (P s count).2/\ar y.fp w y.fp w'
def WkC(y:rL)(T V:CF)(m:Nat)(W:SS->Nat->Nat->Nat->Bool × SS):Prop :=
 ∀(w:World) (s:SS) (k at_ count:Nat),Sw w y T V s->Wf V T s->s.un<m->k∈uP s->(uP s).length+count=T.ow.length ->
  Calls prog 207 #[.pointer (some ⟨y.q,0,none⟩),.int .i64 k,.int .i64 at_,.int .i64 count] w λe w'=>e=.returned (.bool (W s k at_ count).1)/\Sw w' y T V (W s k at_ count).2/\ar y.fp w y.fp w'
theorem GN{s:SS}{k:Nat}(h:k∈uP s):k<s.pl.length/\s.pl.getD k false=false:=by
 obtain⟨h1,h2⟩:=mem_filter.1 h;exact⟨mem_range.1 h1,by simpa using h2⟩
theorem jZ{l:List Pr}{k:Nat}(h:k<l.length):l.getD k ay=l[k]:=by simp[h]
theorem ou(o:Option Nat):(fU o != (-1:Int))=o.isSome:=by
 cases o with
 |none=>rfl
 |some n=>simp[fU]
theorem TR{y:rL}{T V:CF}(hT:Rm T){m:Nat}{P:SS->Nat->Bool × SS}(hP:PlC y T V m P)(hPk:YK V T P){w:World}{s:SS}{k at_ count:Nat}(h:Sw w y T V s)(hw:Wf V T s)(hm:s.un<m)(hk:k∈uP s)(hc:(uP s).length+count=T.ow.length):
  Calls prog 246 #[.pointer (some ⟨y.q,0,none⟩),.int .i64 k,.int .i64 at_,.int .i64 count] w λe w'=>e=.returned (.bool (Fo P T s k at_ count).1)/\Sw w' y T V (Fo P T s k at_ count).2/\ar y.fp w y.fp w':=by
 obtain⟨gJ,hkp⟩:=GN hk;have hkT:k<T.ow.length:=by rw[<-hw.lp];exact gJ
 obtain⟨ao,tcap,gw,htm,XJ,htc⟩:=dQ h.ft.ow;obtain⟨g,s8,ax⟩:=htc (by intro e;rw[e]at hkT;simp at hkT);have hr:=(ax k hkT).2.2;have KJ:=h.ft.c6;rw[gw,s8]at KJ;have hq1:=h.c1;obtain⟨right,hri⟩:∃right,right=(T.ow.getD k ay).r:=⟨_,rfl⟩;have FY:right<24:=by rw[hri];exact(hT.at k).2
 rw[<-jZ hkT,<-hri]at hr;have KQ:=h.cb FY;obtain⟨bef,SA⟩:∃bef,bef=s.b right:=⟨_,rfl⟩;rw[<-SA]at KQ;have UK:s.pl≠[]:=by intro e;rw[e]at gJ;simp at gJ
 obtain⟨L,lcap,ew,hlc,hlm,hpc,hpf⟩:=h.plc UK;have dN:=hw.lp;have dT:count<T.ow.length:=by
  have:=length_pos_of_mem hk;omega
 have hfz:=h.frz (26+right);have HS:=ab h;have HW:=ab hw;have HK:=ab hk;have HC:=ab hc;have WG:=ab hP;have HPK:=ab hPk;have HRI:=ab hri;have EV:=ab SA;have x8:=ab ew;have HM:=ab hm;have cH:=ab (h.setB FY (some at_));have hq7:=(uh cH).cp;rw[ew]at hq7;have alS:(w.setCell ⟨y.q,26+right,none⟩ (.int .i64 (fU (some at_)))).frozen? ⟨L,k,none⟩=false:=by
  obtain⟨L',c',e',_,_,_,h2⟩:=(uh cH).plc UK;rw[ew]at e';cases e'
  exact h2 k
 have alR:(w.setCell ⟨y.q,26+right,none⟩ (.int .i64 (fU (some at_)))).cell? ⟨L,k,none⟩=some (.bool false):=by
  obtain⟨L',c',e',_,_,h2,_⟩:=(uh cH).plc UK;rw[ew]at e';cases e'
  have:=h2 k gJ;rw[this];exact congrArg some (congrArg Value.bool hkp)
 have dg:=ab ((uh cH).setP (i:=k) (o:=true) ew);rw[show(fU (some at_))=(at_:Int) from rfl]at hq7 alS alR dg cH;have arI:lcap<=9223372036854775807:=by unfold maxLen at hlm;omega
 have ash:tcap<=9223372036854775807:=by unfold maxLen at htm;omega
 clear htm hlm;have hs2u:({ s with bd:=s.bd.set right (some at_),pl:=s.pl.set k true }:SS).un<m:=hm;have tj:Wf V T { s with bd:=s.bd.set right (some at_),pl:=s.pl.set k true }:=⟨hw.lo,by simpa using hw.lp,by simpa using hw.lb,hw.un⟩;have EH:=JT (s:=s) hk (s':={ s with bd:=s.bd.set right (some at_),pl:=s.pl.set k true }) rfl;have m8:=EH.length_eq;rw[length_cons]at m8;have vO:(uP { s with bd:=s.bd.set right (some at_),pl:=s.pl.set k true }).length+(count+1)=T.ow.length:=by omega
 have Ww:=ab (hP _ _ (count+1) (uh dg) tj hs2u vO);have mq:=ab (hPk _ (count+1) tj vO _ _ rfl);obtain⟨r,hr0⟩:∃r,r=P { s with bd:=s.bd.set right (some at_),pl:=s.pl.set k true } (count+1):=⟨_,rfl⟩;rw[<-hr0]at Ww mq;have HEn:Hid ((bef=none\/bef=some at_)->Fo P T s k at_ count=(if r.1=true then (true,r.2) else (false,{ r.2 with pl:=r.2.pl.set k false,bd:=r.2.bd.set right bef }))):=ab (λhb=>by
  unfold Fo;rw[<-hri,<-SA,if_neg (by rintro⟨a,b⟩;rcases hb with hb|hb;exact a hb;exact b hb),<-hr0];obtain⟨b1,s1⟩:=r;cases b1 <;> rfl)
 have HEf:Hid (¬ (bef=none\/bef=some at_)->Fo P T s k at_ count=(false,s)):=ab (λhb=>by
  unfold Fo;rw[<-hri,<-SA,if_pos ⟨λe=>hb (zq0 e),λe=>hb (zq1 e)⟩])
 have aei:Hid (ar y.fp w y.fp ((w.setCell ⟨y.q,26+right,none⟩ (.int .i64 (at_:Int))).setCell ⟨L,k,none⟩ (.bool true))):=ab (((ar.refl y.fp w).setCell (zq0 (Sw.memQ y)) _).setCell (zq0 (Sw.memP ew)) _);clear hr0 tj hs2u vO m8 EH;clear h hw hk hc hP hPk hri SA ew ax htc hpc hpf hm gw s8 hkp;have main:∀(O1:Hid (bef=none\/bef=some at_)) (x:Int) (hx:w.cell? ⟨y.q,26+right,none⟩=some (.int .i64 x)) (XL:Hid (x=fU bef)) (tp:(x != (-1:Int))=false\/((x != (-1:Int))=true/\(x != (at_:Int))=false)),Calls prog 246 #[.pointer (some ⟨y.q,0,none⟩),.int .i64 k,.int .i64 at_,.int .i64 count] w λe w'=>e=.returned (.bool (Fo P T s k at_ count).1)/\Sw w' y T V (Fo P T s k at_ count).2/\ar y.fp w y.fp w':=by
  intro O1 x hx XL tp;have adK:=ab (uh HEn (uh O1));clear KQ O1;rcases tp with tp|⟨tp,pU⟩
  all_goals
   go_enter func246,ntmps246;go_wp2_with fail
   rw[show((count:Int)+1)=((count+1:Nat):Int) by omega];refine(uh Ww).mono ?_;rintro e w3 ⟨rfl,cR,FG⟩;obtain⟨b,s3⟩:=r;cases b with
   |true =>
    have iT:=ab cR;have uZ:=ab FG;clear cR FG;go_wp2_with fail
    go_ret;rw[uh adK];exact⟨rfl,uh iT,(uh aei).trans (uh uZ)⟩
   |false =>
    have gi:=(uh mq).1 rfl;dsimp only at cR gi;have UJ:s3.pl=s.pl.set k true:=(by rw[gi]);have XF:s3.pl≠[]:=by
     rw[UJ];intro e;have:=congrArg List.length e;simp at this;exact UK this
    have hc3:=cR.cp;rw[uh x8]at hc3;obtain⟨L',lc',e',_,_,agD,agE⟩:=cR.plc XF;rw[uh x8]at e';have eL:L=L':=(by injection e' with e1 _ _;injection e1 with e1;injection e1);subst eL;have hx3:=agD k (by rw[UJ];simpa using gJ);have hy3:=agE k;have Pp:s3.pl.length=s.pl.length:=(by rw[UJ];simp);have mE:=ab (cR.setP (i:=k) (o:=false) (by rw[Pp];exact uh x8));have arq:=(uh mE).frz (26+right);have tB:=ab ((uh mE).setB FY bef);have L6:Hid (ar y.fp w y.fp ((w3.setCell ⟨L,k,none⟩ (.bool false)).setCell ⟨y.q,26+right,none⟩ (.int .i64 (fU bef)))):=ab (((uh aei).trans ((FG.setCell (zq0 (Sw.memP (uh x8))) _).setCell (zq0 (Sw.memQ y)) _)));rw[<-uh XL]at tB L6;have afG:∃u,(w3.setCell ⟨L,k,none⟩ (.bool false)).cell? ⟨y.q,26+right,none⟩=some u:=⟨_,(uh mE).cb FY⟩;obtain⟨u4,afG⟩:=afG;clear cR FG agD agE gi UJ XF Pp;go_wp2_with fail
    go_ret;rw[uh adK];exact⟨rfl,uh tB,uh L6⟩
 have HCb:=ab KQ;have HM:=ab main;clear main;cases bef with
 |none=>exact uh HM (ab (zq0 rfl)) (-1) KQ (ab rfl) (zq0 rfl)
 |some b0 =>
  by_cases e:b0=at_
  .refine uh HM (ab (zq1 (by rw[e]))) (b0:Int) KQ (ab rfl) (zq1 ⟨ou (some b0),?_⟩);rw[e];simp
  .have aH:((b0:Int) != (at_:Int))=true:=(by rw[bne_iff_ne];omega);have kq:((b0:Int) != (-1:Int))=true:=ou (some b0);have arm:w.cell? ⟨y.q,26+right,none⟩=some (.int .i64 (b0:Int)):=KQ;have ajv:=ab (uh HEf (by rintro(h|h);cases h;exact e (Option.some.inj h)));clear KQ;go_enter func246,ntmps246;go_wp2_with fail
   go_ret;rw[uh ajv];exact⟨rfl,uh HS,ar.refl _ _⟩
