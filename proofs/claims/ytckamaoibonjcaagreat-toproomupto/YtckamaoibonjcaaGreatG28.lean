/- What is proved here: plain facts and contracts that the claimed theorem stands on. No condition but those that each names. -/
import Derived.Test.YtckamaoibonjcaaGreatG27
namespace Go.Proofs.YtckamaoibonjcaaGreat
open Go.RowKit
open Go.RowKit Go.Maps
theorem Iu{a d:Type}{l r:List a}(c:List.Sublist l r)(f:a->List d):List.Sublist (l.flatMap f) (r.flatMap f):=by
 induction c with
 | slnil=>exact List.Sublist.refl _
 | cons b _ ih=>
  simp only[bB];exact ih.trans (List.sublist_append_right _ _)
 | cons_cons b _ ih=>
  simp only[bB];exact List.Sublist.append (List.Sublist.refl _) ih
theorem Lz{b:Type}{l r:List b}(c:List.Sublist l r)(f:b->Int)(d:∀a,0<=f a):(l.map f).sum<=(r.map f).sum:=by
 induction c with
 | slnil=>exact iN _
 | cons a _ ih=>
  simp only[aK,bv];have:=d a;omega
 | cons_cons a _ ih=>
  simp only[aK,bv];omega
theorem jI.erase{N:Nat}{ws:List Wd}{nm:List ByteArray}{room:Int}{d:Wd}{vs:List Wd}{s:Tm (N+1)}{ms:List (Tm (N+1))}(l:jI (N+1) ws nm room (d::vs) (s::ms))(i:Nat):jI (N+1) ws nm room (d::vs.eraseIdx i) (s::ms.eraseIdx i):=by
 obtain⟨f,o,p,v,q,r,t,u⟩:=l;have m:vs.length=ms.length:=by simpa using f.1
 have n:List.Sublist (d::vs.eraseIdx i) (d::vs):=(List.eraseIdx_sublist vs i).cons_cons d;have j:List.Sublist (s::ms.eraseIdx i) (s::ms):=(List.eraseIdx_sublist ms i).cons_cons s;refine⟨⟨by simp[List.length_eraseIdx,m],λc g e b a=>?_⟩,(Iu n _).nodup o,λe a=>p e (j.subset a),?_,q,r,t,u⟩
 ·cases c with
  | zero=>
   simp only[cN,kw]at b a;exact f.2 0 g e (by simp[b]) (by simp[a])
  | succ c=>
   simp only[cY,List.getElem?_eraseIdx]at b a;by_cases h:c<i
   ·rw[if_pos h]at b a;exact f.2 (c+1) g e (by simpa using b) (by simpa using a)
   ·rw[if_neg h]at b a;exact f.2 (c+2) g e (by simpa using b) (by simpa using a)
 ·have:=Lz j (sz (N+1)) λk=>(eE (N+1) k).1;omega
section
variable {base pb:Nat} {name:ByteArray} {room:Int} {N:Nat} {s:Tm (N+1)} {ms:List (Tm (N+1))} {nk:Nat} {M:Nat->Prop} {w:World} {ws:List Wd} {nm:List ByteArray} {sv:Wd} {vs:List Wd} {ma:Option Addr} {mc:Nat} {Mh:Nat->Prop}
theorem cC.dropped(a:cC base pb name room (N+1) s ms [] nk M w ws nm sv vs ma mc Mh)(i:Nat){w1:World}{g:Nat}(x:¬Mh g)(l:bq (λb=>b=g) w w1)(v:ju Mh ma (vs.eraseIdx i) mc w1)(u:M g):cC base pb name room (N+1) s (ms.eraseIdx i) [] nk M (w1.setCell ⟨pb,7,none⟩ (.slice ma (vs.eraseIdx i).length mc)) ws nm sv (vs.eraseIdx i) ma mc Mh/\bP M w (w1.setCell ⟨pb,7,none⟩ (.slice ma (vs.eraseIdx i).length mc)):=by
 obtain⟨m,z⟩:=a.box0;have q:dA base (PL pb name sv (ae ma vs.length mc)) room ws nm Mh w1:=a.heap.kept (ja l) λb r _ c=>x (by rw[<-c];exact r);have k:=bk w1 pb 7 (.slice ma (vs.eraseIdx i).length mc);have j:=a.has;simp only[bX,eh]at j;refine⟨⟨q.turn k λB A mp t=>?_,?_,?_,?_,a.names,a.inM,a.mailM⟩,?_⟩
 ·unfold World.setCell;simp[bG,t]
 ·rcases v with d|⟨h,y,n,o,e,f,p⟩
  ·exact ah d
  ·exact ai ⟨h,y,n,o,e,(k.block h (aD.1 f).1 λd=>e (by rw[d];exact m)).trans f,p⟩
 ·simp only[bX,eh];exact j.erase i
 ·simp[List.length_eraseIdx,a.len]
 ·refine bP.trans ((ja l).mono λb c=>?_) k λb _ c=>?_
  ·rw[c];exact u
  ·rw[c];exact a.inM pb m
theorem cC.delete(a:cC base pb name room (N+1) s ms [] nk M w ws nm sv vs ma mc Mh)(i:Nat)(H:i<ms.length)(G:ms.length<=1000):am 71 #[ae ma vs.length mc,ab i,ab ((i:Int)+1)] w λe w'=>e=.returned (.slice ma (vs.eraseIdx i).length mc)/\Hid (bq M w w'/\w'.cell? ⟨pb,7,none⟩=some (ae ma vs.length mc)/\w'.frozen? ⟨pb,7,none⟩=false/\ cC base pb name room (N+1) s (ms.eraseIdx i) [] nk M (w'.setCell ⟨pb,7,none⟩ (.slice ma (vs.eraseIdx i).length mc)) ws nm sv (vs.eraseIdx i) ma mc Mh/\bP M w (w'.setCell ⟨pb,7,none⟩ (.slice ma (vs.eraseIdx i).length mc))):=by
 have k:=a.len;obtain⟨E,m⟩:=a.box0;have f:(vs.eraseIdx i).length=vs.length-1:=by rw[List.length_eraseIdx,if_pos (by omega)]
 rcases a.mail with⟨_,e,_⟩|⟨g,n,u,rfl,d,x,y,z,A,B⟩
 ·rw[e]at k;simp at k;omega
 ·refine(xT g n mc i vs u w (by omega) x y (by omega) A B).mono ?_;rintro e w' ⟨rfl,o⟩;obtain⟨c,I,v,p,F,q⟩:=o.out;have j:=a.mailM _ rfl;have l:¬pb=g:=λe=>d (by rw[<-e];exact E);obtain⟨L,J,K,C,_⟩:=a.heap.box;obtain⟨_,_,_,r,t,_⟩:=PL.cells C;have D:=a.dropped i (w1:=w') (g:=g) d c (ai ⟨g,n,v,rfl,d,p,by omega,z,by omega,by rw[f];exact q⟩) j;refine⟨by rw[f],c.mono λb _ e=>by rw[e];exact j,(c.cell 7 m l).trans r,?_,D⟩;have h:=t 7;unfold World.frozen? at h ⊢;rw[c.block pb m l];exact h
end
def qU(n:Nat)(room:Int)(l:List (Bh (n+1)))(name:ByteArray)(self next:Int)(s:Tc)(ms:List Tc):Int:=
 if nt n l≠0 then nt n l else if (decide (1<=self) && decide (self<=99) && decide (1<=next) && decide (next<=92))=false then 1 else if (l6 room l name self next s ms).isSome then 0 else 4
def lu(c:Nat)(sends:List (Int×Tc))(spawns:List (Int×ByteArray×Tc))(links:List Int)(sa:Option Addr)(sl sc:Nat)(pa:Option Addr)(pl pc:Nat)(ka:Option Addr)(kl kc:Nat)(P:Nat->Prop)(w:World):Prop:=
 ∃(f:Nat)(d:List (Int×Tm (f+1)))(e:List (Int×ByteArray×Tm (f+1))),(d.length=sl/\e.length=pl/\links.length=kl)/\w.ownsRow c 162 5 (ae sa sl sc) sl (d.flatMap λa=>L9 a.1 a.2)/\w.ownsRow c 159 6 (ae pa pl pc) pl (e.flatMap λa=>M7 a.1 a.2.1 a.2.2)/\w.ownsRow c 3 1 (ae ka kl kc) kl (links.map λg=>ab g)/\
  d.map (λa=>(a.1,cn _ a.2))=sends/\e.map (λa=>(a.1,a.2.1,cn _ a.2.2))=spawns/\(∀a∈d,bu _ a.2=0/\In w.heap.size w _ a.2/\bZ (λb=>c<=b/\P b) _ a.2)/\(∀a∈e,bu _ a.2.2=0/\In w.heap.size w _ a.2.2/\bZ (λb=>c<=b/\P b) _ a.2.2)/\∀b,((Value.slice sa sl sc).ownBlock=some b\/(Value.slice pa pl pc).ownBlock=some b\/(Value.slice ka kl kc).ownBlock=some b)->c<=b/\P b
theorem lu.kept{f:Nat}{sends:List (Int×Tc)}{spawns:List (Int×ByteArray×Tc)}{links:List Int}{sa:Option Addr}{sl sc:Nat}{pa:Option Addr}{pl pc:Nat}{ka:Option Addr}{kl kc:Nat}{P:Nat->Prop}{w w':World}(v:lu f sends spawns links sa sl sc pa pl pc ka kl kc P w){S:Nat->Prop}(r:bq S w w')(o:∀q,f<=q->P q->q<w.heap.size->¬S q):lu f sends spawns links sa sl sc pa pl pc ka kl kc P w':=by
 obtain⟨u,H,I,x,y,z,A,B,C,g,h,i⟩:=v;have p:∀{e:Nat}{m:Tm e},In w.heap.size w e m->bZ (λq=>f<=q/\P q) e m->In w'.heap.size w' e m:=λF G=>F.kee (r.mono (T:=λb=>S b/\b<w.heap.size) λb D q=>⟨q,D⟩) (G.mono λq c (a:S q/\q<w.heap.size)=>o q c.1 c.2 a.2 a.1);have l:∀{k:TypeId}{a e:Nat}{j:Value}{n:List Value},w.ownsRow f k a j e n->(∀q,j.ownBlock=some q->f<=q/\P q)->w'.ownsRow f k a j e n:=λ{k a e j n} s t=>bf s r λq c=>by
  obtain⟨J,E⟩:=dV s q c;exact o q (t q c).1 (t q c).2 (aD.1 E).1
 exact⟨u,H,I,x,l y λq c=>i q (ah c),l z λq c=>i q (ai (ah c)),l A λq c=>i q (ai (ai c)),B,C,λa d=>⟨(g a d).1,p (g a d).2.1 (g a d).2.2,(g a d).2.2⟩,λa d=>⟨(h a d).1,p (h a d).2.1 (h a d).2.2,(h a d).2.2⟩,i⟩
theorem lu.none(c:Nat)(P:Nat->Prop)(w:World):lu c [] [] [] none 0 0 none 0 0 none 0 0 P w:=
 ⟨0,[],[],⟨rfl,rfl,rfl⟩,en _ _ _ _,en _ _ _ _,en _ _ _ _,rfl,rfl,λd b=>(by cases b),λd b=>(by cases b),λe a=>by
  rcases a with a|a|a<;>cases a⟩
def Oi(r q:Nat)(name:ByteArray)(room:Int)(s:Tc)(ms:List Tc)(o:Nat)(M:Nat->Prop)(n:Nat)(l:List (Bh (n+1)))(self next:Int)(w:World)(e:Ending)(w':World):Prop:=
 (∃g,e=.returned (.tuple #[LC,ab g])/\Hid (g≠0/\g=qU n room l name self next (cn 13 s) (ms.map (cn 13))/\aj w w'))\/
  ∃(a:Tc)(f:Int)(sa:Option Addr)(sl sc:Nat)(pa:Option Addr)(pl pc:Nat)(ka:Option Addr)(kl kc:Nat),e=.returned (.tuple #[Nr a.1.1 a.1.2.1 a.1.2.2 a.2.1.1 a.2.2.length a.2.1.2 f sa sl sc pa pl pc ka kl kc,ab 0])/\Hid (∃b h d,qU n room l name self next (cn 13 s) (ms.map (cn 13))=0/\l6 room l name self next (cn 13 s) (ms.map (cn 13))=some b/\f=b.fate/\cn 13 a=b.message/\bu 13 a=0/\In w'.heap.size w' 13 a/\bZ (λc=>w.heap.size<=c/\c<d) 13 a/\bP M w w'/\w.heap.size<d/\
   (∃i v p t u k m j,cC r q name room 13 i (ms.eraseIdx h) [] (o+402) (λc=>M c\/d<=c) w' v p t u k m j/\cn 13 i=b.state/\(ms.eraseIdx h).map (cn 13)=b.mail)/\lu (w.heap.size+1) b.sends b.spawns b.links sa sl sc pa pl pc ka kl kc (λ_=>True) w')
theorem MO{n:Nat}(room self next:Int)(s m:Tc)(ms:List Tc)(c:Cl (n+1))(b:List Tc):eO room self next s m ms c b={eO room self next s s ms c b with message:=m}:=by
 unfold eO;cases pE self c.2.2 ⟨b,next,[],[],[],false⟩with
 | none=>rfl
 | some e=>
  cases d:rn e.b self (n+1) c.1.2.2 with
  | none=>simp only[d]
  | some t=>
   simp only[d];by_cases a:(ms.map (sz 13)).sum+sz 13 t<=room
   ·simp only[if_pos a]
   ·simp only[if_neg a]
theorem Fr{n:Nat}{room self next:Int}{s m:Tc}{ms:List Tc}{c:Cl (n+1)}{b:List Tc}(a:¬((eO room self next s m ms c b).fate=0\/(eO room self next s m ms c b).fate=1)):(eO room self next s m ms c b).sends=[]/\(eO room self next s m ms c b).spawns=[]/\(eO room self next s m ms c b).links=[]:=by
 unfold eO at a ⊢;cases hd:pE self c.2.2 ⟨b,next,[],[],[],false⟩with
 | none=>exact⟨rfl,rfl,rfl⟩
 | some d=>
  rw[hd]at a;cases f:rn d.b self (n+1) c.1.2.2 with
  | none=>simp[f]
  | some t=>
   simp only[f]at a ⊢;by_cases e:(ms.map (sz 13)).sum+sz 13 t<=room
   ·simp only[if_pos e]at a;cases hst:d.stops<;>simp[hst]at a
   ·simp[if_neg e]
theorem Fq{n:Nat}(room self next:Int)(s m:Tc)(ms:List Tc)(c:Cl (n+1))(b:List Tc):(eO room self next s m ms c b).mail=ms:=by
 unfold eO;cases pE self c.2.2 ⟨b,next,[],[],[],false⟩with
 | none=>rfl
 | some e=>
  cases d:rn e.b self (n+1) c.1.2.2 with
  | none=>simp only[d]
  | some t=>
   simp only[d];by_cases a:(ms.map (sz 13)).sum+sz 13 t<=room
   ·simp only[if_pos a]
   ·simp only[if_neg a]
theorem qh.keptS{D:Nat}{l:List (Tm D)}{B:List Tc}{d:Nat}{w w':World}{b h:Nat}{S:Nat->Prop}(a:qh D l B d w b h)(c:bq S w w')(g:∀q,d<=q->¬S q):qh D l B d w' b h:=by
 obtain⟨e,f⟩:=a.new;refine⟨a.bnd,a.tells,a.cap,⟨e,aN f c.size⟩,λn t m=>?_,λo=>?_⟩
 ·obtain⟨p,r,j⟩:=a.at' n t m;exact⟨p.kee c f (g b e),r.kee c (j.mono λs k=>g s k.1),j⟩
 ·have i:=a.free o;unfold World.frozen? at i ⊢;rw[c.block b f (g b e)];exact i
theorem vX{n B:Nat}{w:World}{p:Option Addr}{l:List (Bh (n+1))}(j:gP (n+1) B w p l)(name:ByteArray):∃e d g,KD (n+1) (fX (n+1) name l)=ae e d g/\(f9 name l).length=d/\px B w 13 (eK (n+1)) (gO (n+1) B w) e (f9 name l)/\(f9 name l=[]\/∃b∈l,f9 name l=b.2.2):=by
 have k:∀(l:List (Bh (n+1))) b,fX (n+1) name l=some b->b∈l:=by
  intro l
  induction l with
  | nil=>intro b a;cases a
  | cons q l ih=>
   intro b a;simp only[fX]at a;split at a
   ·obtain rfl:=au a;simp
   ·exact bI _ (ih b a)
 unfold f9;cases hb:fX (n+1) name l with
 | none=>exact⟨none,0,0,rfl,rfl,ah rfl,ah rfl⟩
 | some b=>
  have c:=k l b hb;refine⟨_,_,_,rfl,rfl,?_,ai ⟨b,c,rfl⟩⟩;rcases j with f|⟨s,o,f,r,h⟩
  ·rw[f]at c;cases c
  ·obtain⟨m,i⟩:=cO c;exact((h m b i).2).2.2
theorem cC.step{an J n:Nat}{name:ByteArray}{room:Int}{s:Tc}{ms:List Tc}{al:Nat}{M:Nat->Prop}{w:World}{ws:List Wd}{nm:List ByteArray}{br:Wd}{vs:List Wd}{ma:Option Addr}{aG:Nat}{Mh:Nat->Prop}(S:cC an J name room 13 s ms [] al M w ws nm br vs ma aG Mh)(l:List (Bh (n+1)))(Z:Option Addr)(L B:Nat)(a5:gP (n+1) B w Z l)(Q:B<=w.heap.size)(b7:l.length<=L)(bj:L<=maxLen)(bK:jY (n+1) l=true->(aw (n+6) (bW n l)).length<=2097152)(R:∀b,M b->b<w.heap.size)(bL:∀W,bq M w W->gP (n+1) B W Z l)(cy:al<=47000)(ct:ms.length<=999)(cu:an<=w.heap.size)(self next:Int):am 43 #[aF J,ae Z l.length L,ab self,ab next] w (Oi an J name room s ms al M n l self next w):=by
 obtain⟨cb,cc⟩:=S.box0 (N:=12);obtain⟨cK,cD,cG,bM,_⟩:=S.heap.box;obtain⟨bA,_,_,cr,cs,_⟩:=PL.cells bM;obtain⟨aW,bC,bd,bX,bT,bY,bV⟩:=vX a5 name;have cx:L<=9223372036854775807:=by unfold maxLen at bj;omega
 have bh:nt n l=0->(∀c∈f9 name l,pu c)/\(f9 name l).length<=6:=λq=>by
  obtain⟨_,bk⟩:=Ew q;rcases bV with d|⟨b,r,d⟩
  ·rw[d];exact⟨λc bO=>(by cases bO),aE _⟩
  ·rw[d];exact⟨(bk b r).2,(bk b r).1⟩
 have a3:∀(g:Nat)(t:Tc),(ms.map (cn 13))[g]?=some t->g<ms.length:=λg t ar=>by
  have:=(aR.1 ar).1;simpa using this
 refine(Gt J name Z l.length L self next (nt n l) aW bC bd w (rC (f9 name l) (cn 13 s) (ms.map (cn 13)) 0=none)
  (λg i c v F u=>∃j A E,aj w u/\(1<=self/\self<=99/\1<=next/\next<=92)/\nt n l=0/\rC (f9 name l) (cn 13 s) (ms.map (cn 13)) 0=some (g,c,j)/\c∈f9 name l/\(ms.map (cn 13))[g]?=some (cn 13 i)/\bu 13 i=0/\In u.heap.size u 13 i/\bZ (λa=>w.heap.size<a/\a≠v) 13 i/\qh (A+1) E j (w.heap.size+1) u v F)
  (λg i c v F u=>∃j A E aQ aK aM aO aB aH ap,cC an J name room 13 s (ms.eraseIdx g) [] al M u aQ aK aM aO aB aH ap/\bP M w u/\(1<=self/\self<=99/\1<=next/\next<=92)/\nt n l=0/\rC (f9 name l) (cn 13 s) (ms.map (cn 13)) 0=some (g,c,j)/\c∈f9 name l/\(ms.map (cn 13))[g]?=some (cn 13 i)/\bu 13 i=0/\In u.heap.size u 13 i/\bZ (λa=>w.heap.size<a/\a≠v) 13 i/\qh (A+1) E j (w.heap.size+1) u v F)
  (λg i c f sa sl sc pa pl pc ka kl kc P=>∃j aa,rC (f9 name l) (cn 13 s) (ms.map (cn 13)) 0=some (g,c,j)/\(ms.map (cn 13))[g]?=some (cn 13 i)/\bu 13 i=0/\In P.heap.size P 13 i/\bZ (λa=>w.heap.size<a/\a<aa) 13 i/\w.heap.size<aa/\bP M w P/\f=(eO room self next (cn 13 s) (cn 13 s) ((ms.eraseIdx g).map (cn 13)) c j).fate/\
   (∃O aQ aK aM aO aB aH ap,cC an J name room 13 O (ms.eraseIdx g) [] (al+402) (λa=>M a\/aa<=a) P aQ aK aM aO aB aH ap/\cn 13 O=(eO room self next (cn 13 s) (cn 13 s) ((ms.eraseIdx g).map (cn 13)) c j).state)/\
   lu (w.heap.size+1) (eO room self next (cn 13 s) (cn 13 s) ((ms.eraseIdx g).map (cn 13)) c j).sends (eO room self next (cn 13 s) (cn 13 s) ((ms.eraseIdx g).map (cn 13)) c j).spawns (eO room self next (cn 13 s) (cn 13 s) ((ms.eraseIdx g).map (cn 13)) c j).links sa sl sc pa pl pc ka kl kc (λ_=>True) P)
  _ M cc R (S.inM J cb) rfl ?_ bA ?_ ?_ ?_ ?_).mono ?_
 ·intro W k;refine(JM n l Z L b7 bj B W (a5.below (k.mono Q)) (ay Q k.size) bK).mono ?_;rintro d K ⟨i,rfl,x⟩;exact⟨_,_,_,_,_,_,rfl,x.out.1⟩
 ·intro W _ k;refine(tT (n+1) name l Z L l.length B W rfl (by omega) (ay Q k.size) (a5.below (k.mono Q))).mono ?_;rintro d K ⟨rfl,r⟩;exact⟨by rw[bX],r⟩
 ·intro W q y k;simp only[aA,bU]at y;obtain⟨a6,b8⟩:=bh q;have bg:=Cd (S.later (N:=12) k) (f9 name l) aW bd B ((cB (dX (n+1)) 13 (eK (n+1)) aW).below (k.mono Q) bY) (ay Q k.size) a6 (by omega) (by omega) (by omega);rw[bT]at bg;refine bg.mono ?_;rintro d K (⟨bI,rfl,x⟩|⟨g,i,c,v,F,rfl,x⟩)
  ·exact ah ⟨rfl,x.out,bI⟩
  ·obtain⟨j,A,E,G,H,z,I,bn,V,X,D⟩:=x.out;have ch:=k.size;have ak:=D.new;have a2:=a3 g _ z;exact ai ⟨g,i,c,v,F,rfl,bn,by omega,ak.2,by omega,j,A,E,k.trans (bn.mono ch),⟨y.1.1.1,y.1.1.2,y.1.2,y.2⟩,q,G,H,z,I,V,X.mono λa h=>⟨by omega,h.2⟩,D.mono (by omega)⟩
 ·rintro g i c v F u W ⟨j,A,E,aY,T,q,G,H,z,I,V,X,D⟩ k;have aZ:=aY.trans (k.mono aY.size);have a2:=a3 g _ z;obtain⟨cL,cE,cH,bN,_⟩:=(S.later (N:=12) aZ).heap.box;obtain⟨_,_,_,bB,bD,_⟩:=PL.cells bN;refine⟨ma,vs.length,aG,⟨bB,bD 7⟩,λbz av=>?_⟩;have be:=aZ.trans (av.mono aZ.size);refine((S.later (N:=12) be).delete (N:=12) g a2 (by omega)).mono ?_;rintro d K ⟨rfl,x⟩;obtain⟨cj,ck,cl,cm,a9⟩:=x.out;have ce:=aY.size;refine⟨ma,_,aG,rfl,cj,ck,cl,j,A,E,ws,nm,br,_,ma,aG,Mh,cm,(aX be M).trans a9 λ_ _ d=>d,T,q,G,H,z,I,?_,X,?_⟩
  ·exact(((V.below k).mono k.size |>.below av).mono av.size).kee (gX a9) (X.mono λa h e=>by have:=R a e;omega)
  ·exact((D.keptS (aI k (λ_=>False)) (λ_ _ d=>d)).keptS (aI av (λ_=>False)) (λ_ _ d=>d)).keptS (gX a9) λa h e=>by have:=R a e;omega
 ·rintro g i c v F u W ad ⟨j,A,E,aQ,aK,aM,aO,aB,aH,ap,ca,a4,T,q,G,H,z,I,V,X,D⟩ k cv bf;obtain⟨a6,b8⟩:=bh q;have Y:=D.keptS (aI k (λ_=>False)) (λ_ _ d=>d);have ak:=D.new;have ce:=a4.size;have cg:=k.size;have a2:=a3 g _ z;have cw:ad<W.heap.size:=(aD.1 bf).1;have b1:dW (w.heap.size+1) ad self n A 0 next ⟨j,next,[],[],[],false⟩ W E v F [] [] (ae none 0 0) (ae none 0 0) (ae none 0 0):=by
   refine⟨bf,⟨by omega,by omega,ak.1,Y.new.2,by omega⟩,Y.bnd,Y.tells,λU e p=>⟨(Y.at' U e p).1,(Y.at' U e p).2.1,(In.offB (D.at' U e p).2.2 (D.at' U e p).2.1).mono λa h=>⟨h.1.1,λm=>?_⟩⟩,Y.free,en _ _ _ _,en _ _ _ _,en _ _ _ _,rfl,rfl,λe p=>(by cases p),λe p=>(by cases p),⟨⟨λd=>(by cases d),λd=>(by cases d),λd=>(by cases d)⟩,⟨λd=>(by cases d),λd=>(by cases d),λd=>(by cases d)⟩,λa=>⟨λd=>(by cases d),λd=>(by cases d)⟩⟩,⟨aE _,aE _,aE _,by simp,T.2.2.1,T.2.2.2⟩⟩;rcases m with m|m|m|m|m
   ·have:=h.2;omega
   ·exact h.1.2 m
   ·cases m
   ·cases m
   ·cases m
  have b6:bq M w W:=(gX a4).trans (aI k (λ_=>False)) λ_ _ d=>d.elim;have bS:gO (n+1) B W c:=by
   obtain⟨_,_,_,_,_,b0,_⟩:=vX (bL W b6) name;rcases b0 with d|⟨a,o,d,h,bR⟩
   ·rw[d]at H;cases H
   ·obtain⟨U,b5⟩:=cO H;exact(bR U c b5).2
  have bQ:gO (n+1) (w.heap.size+1) W c:=(dX (n+1)).mono (by omega) bS;have b2:(ms.eraseIdx g).length<=999:=by
   have:=List.length_eraseIdx_le ms g;omega
  have a1:=Co (b:=j) (ca.later (N:=12) k) b1 rfl c bQ (a6 c H) ⟨T.1,T.2.1⟩ (λa e=>by have:=R a e;omega) (by omega) (by omega) b2;have b3:am 72 #[aF J,Oo c,aF ad] W _:=a1;refine b3.mono ?_;rintro d K ⟨f,rfl,aU,aV,⟨O,aS,aL,aN,aP,aC,aJ,aq,bb,bc⟩,bx⟩;have a0:∀a,kS ad v (ae none 0 0) (ae none 0 0) (ae none 0 0) a->a=ad\/a=v:=λa m=>by
   rcases m with m|m|m|m|m
   ·exact ah m
   ·exact ai m
   ·cases m
   ·cases m
   ·cases m
  have af:bP M w K:=(a4.trans (aX k M) λ_ _ d=>d).trans (ja aV) λa h e=>by
   rcases e with e|e
   ·exact e
   ·rcases a0 a e with e|e<;>omega
  have ao:=In.offB X V
  have aT:In K.heap.size K 13 i:=((V.below k).mono cg).kee aV (ao.mono λa h e=>by
   rcases e with e|e
   ·have:=R a e;omega
   ·rcases a0 a e with e|e
    ·have:=h.2;omega
    ·exact h.1.2 e)
  have bs:bZ (λa=>w.heap.size<a/\a<W.heap.size) 13 i:=ao.mono λa h=>⟨h.1.1,by have:=h.2;omega⟩;refine⟨f,rfl,aV.mono λa _ e=>?_,λau=>?_,λau=>?_⟩
  ·rcases e with e|e
   ·exact ah e
   ·exact ai (a0 a e)
  ·obtain⟨bE,cA,cq,cp,bo,bp,cJ,cI,cF,C,bt,bv,ba,_⟩:=bx au;have bm:=C.sRow;have bl:=C.pRow;have bi:=C.lRow;have b4:=C.high;have a8:=C.sIn;have a7:=C.pIn;obtain⟨sa,sc,rfl⟩:=lZ bm;obtain⟨pa,pc,rfl⟩:=lZ bl;obtain⟨ka,kc,rfl⟩:=lZ bi;refine⟨_,_,_,_,sa,bo.length,sc,pa,bp.length,pc,ka,bE.links.length,kc,C.box,j,W.heap.size,G,z,I,aT,bs,by omega,af,aU,⟨O,aS,aL,aN,aP,aC,aJ,aq,bb,bc⟩,?_⟩;refine⟨A+1+n,bo,bp,⟨rfl,rfl,by rw[<-ba]⟩,bm,bl,by rw[<-ba];exact bi,C.sIs.trans bt,C.pIs.trans bv,λe p=>⟨(a8 e p).1,(a8 e p).2.1,(a8 e p).2.2.mono λa h=>⟨h.1,trivial⟩⟩,λe p=>⟨(a7 e p).1,(a7 e p).2.1,(a7 e p).2.2.mono λa h=>⟨h.1,trivial⟩⟩,λa h=>⟨b4 a (ai (ai h)),trivial⟩⟩
  ·rw[aU]at au;obtain⟨bF,bG,bH⟩:=Fr au;refine⟨j,W.heap.size,G,z,I,aT,bs,by omega,af,aU,⟨O,aS,aL,aN,aP,aC,aJ,aq,bb,bc⟩,?_⟩;rw[bF,bG,bH];exact lu.none _ _ _
 ·rintro d K (⟨co,rfl,x⟩|⟨g,i,c,f,sa,sl,sc,pa,pl,pc,ka,kl,kc,rfl,x⟩)
  ·obtain⟨r,ci⟩:=x.out;refine ah ⟨co,rfl,?_⟩;rcases ci with⟨rfl,ar⟩|⟨rfl,q,y⟩|⟨rfl,q,y,ak⟩
   ·exact⟨ar,by unfold qU;rw[if_pos ar],r⟩
   ·exact⟨by decide,by unfold qU;rw[if_neg (λa=>a q),if_pos y],r⟩
   ·refine⟨by decide,?_,r⟩;have az:l6 room l name self next (cn 13 s) (ms.map (cn 13))=none:=by
     unfold l6;rw[ak];rfl
    unfold qU;rw[if_neg (λa=>a q),if_neg (by rw[y];decide),az];rfl
  ·obtain⟨q,y,P,bz,⟨j,aa,G,z,I,aT,ao,bJ,af,a1,⟨O,aS,aL,aN,aP,aC,aJ,aq,P1,bw⟩,cd⟩,ag,ax⟩:=x.out;have cz:=af.size;have cf:=ag.size;have b9:(ms.map (cn 13)).eraseIdx g=(ms.eraseIdx g).map (cn 13):=by simp[r8,List.map_take,List.map_drop]
   have az:l6 room l name self next (cn 13 s) (ms.map (cn 13))=some {eO room self next (cn 13 s) (cn 13 s) ((ms.eraseIdx g).map (cn 13)) c j with message:=cn 13 i}:=by
    unfold l6;rw[G];simp only[dh];rw[z,b9,Option.map_some,MO]
   refine ai ⟨i,f,sa,sl,sc,pa,pl,pc,ka,kl,kc,rfl,_,g,aa,?_,az,a1,rfl,I,((aT.below ag).mono cf).kee ax (ao.mono λa h d=>by omega),ao.mono λa h=>⟨by omega,h.2⟩,(af.trans (aX ag M) λ_ _ d=>d).trans (ja ax) λb r d=>by omega,bJ,⟨O,aS,aL,aN,aP,aC,aJ,aq,(P1.later (N:=12) ag).kept (N:=12) (ja ax) λb r _ d=>?_,bw,(Fq ..).symm⟩,(cd.kept (aI ag (λ_=>False)) λ_ _ _ _ d=>d).kept ax λa h _ _ d=>by omega⟩
   ·unfold qU;rw[if_neg (λa=>a q),if_neg (by rw[y];decide),az];rfl
   ·rcases r with r|r
    ·have:=R b r;omega
    ·omega
theorem vU(n:Nat)(x:Tm n):bu n x=0\/bu n x=2\/bu n x=5:=by
 rw[<-gf];unfold vJ;split
 ·split
  ·exact ai (ah rfl)
  ·exact ah rfl
 ·exact ai (ai rfl)
section
variable {base pb:Nat} {name:ByteArray} {room:Int} {N n:Nat} {s:Tm (N+1)} {ms:List (Tm (N+1))} {nk:Nat} {M:Nat->Prop} {w:World} {ws:List Wd} {nm:List ByteArray} {sv:Wd} {vs:List Wd} {ma:Option Addr} {mc:Nat} {Mh:Nat->Prop}
theorem cC.putBad(k:cC base pb name room (N+1) s ms [] nk M w ws nm sv vs ma mc Mh)(x:Tm (n+1))(B:In w.heap.size w (n+1) x)(z:bZ (λb=>¬M b) (n+1) x)(u:(aw (n+1) x).length<=2097152)(G:nk<=49000)(F:base<=w.heap.size)(o:bu (n+1) x≠0):am 109 #[aF pb,dj (n+1) x] w λe w'=>e=.returned (.tuple #[.agg #[ab 0,ab 0],ab (bu (n+1) x)])/\aj w w':=by
 obtain⟨_,_,_,I,J,C,D,_⟩:=k.front;have H:=k.names;have l:jx (n+1) x room ws=bu (n+1) x:=by
  unfold jx;rw[if_pos o]
 have t:jx (n+1) x room ws≠6:=by
  rw[l];rcases vU (n+1) x with e|e|e<;>rw[e]<;>decide
 have p:∀{h:Wd}{c:Int}{f i:World},xA (n+1) x base (PL pb name sv (ae ma vs.length mc)) room ws nm Mh h c f i->c≠0:=λg=>by
  rw[g.1,l];exact o
 refine(A1 pb x.1.1 x.1.2.1 x.1.2.2 x.2.1.1 x.2.2.length x.2.1.2 w (λh c f i=>xA (n+1) x base (PL pb name sv (ae ma vs.length mc)) room ws nm Mh h c f i) (λ_ _=>False) (λ_ _ _ _=>False) ?_ ?_ ?_).mono ?_
 ·intro f d;have m:=d.size;have q:=k.later d;refine(uj (n+1) x base (PL pb name sv (ae ma vs.length mc)) room ws nm Mh f q.heap ((B.below d).mono m) (z.mono λb d g=>d (k.inM b g)) u (by omega) C D (by omega) (by omega)).mono ?_;intro e i g;obtain⟨h,c,rfl,a⟩:=yz g;refine⟨h,c,rfl,?_,a⟩;have j:=(a.2.1 (p a)).2;exact⟨j.size,λb _ _ r=>j.block b r⟩
 ·intro K f i L _ a _ _;exact absurd a.1.symm t
 ·intro _ _ _ a;exact a.elim
 ·rintro e w' ⟨h,c,rfl,⟨_,f,i,d,a,y⟩|⟨_,_,_,_,_,_,_,_,_,_,_,a,_⟩⟩
  ·obtain⟨A,j⟩:=a.2.1 (p a);have m:=d.size;have v:c=bu (n+1) x:=a.1.trans l;refine⟨by rw[v,A],(d.trans (j.mono m)).trans ((gX y).below (by have:=j.size;omega) λb E g=>by omega)⟩
  ·exact a.elim
theorem cC.deliverBad(f:cC base pb name room (N+1) s ms [] nk M w ws nm sv vs ma mc Mh)(x:Tm (n+1))(v:In w.heap.size w (n+1) x)(t:bZ (λb=>¬M b) (n+1) x)(p:(aw (n+1) x).length<=2097152)(r:nk<=49000)(q:base<=w.heap.size)(k:bu (n+1) x≠0):am 78 #[aF pb,dj (n+1) x] w λe w'=>e=.returned (ab (if 20<=ms.length then 2 else bu (n+1) x))/\aj w w':=by
 have z:=f.len;obtain⟨A,u⟩:=f.box0;refine(qy pb x.1.1 x.1.2.1 x.1.2.2 x.2.1.1 x.2.2.length x.2.1.2 vs.length mc ma w (λ_ l h d=>l=bu (n+1) x/\aj h d) (λ_ _ _ _ _ _=>False) u ?_ ?_ ?_).mono ?_
 ·intro d a;obtain⟨D,B,C,i,_⟩:=(f.later a).heap.box;exact(PL.cells i).2.2.2.1
 ·intro h a;have g:=a.size;refine((f.later a).putBad x ((v.below a).mono g) t p r (ay q g) k).mono ?_;rintro e d ⟨rfl,c⟩;exact⟨(0,0),_,rfl,⟨c.size,λb _ _ j=>c.block b j⟩,rfl,c⟩
 ·rintro y h d ⟨e,_⟩;exact absurd e.symm k
 ·rintro e w' ⟨i,m⟩;by_cases o:20<=vs.length
  ·obtain⟨rfl,a⟩:=i o;exact⟨by rw[if_pos (by omega)],a⟩
  ·obtain⟨y,l,h,d,rfl,a,⟨rfl,c⟩,j,_⟩:=m (by omega);have g:=a.size;exact⟨by rw[if_neg (by omega)],(a.trans (c.mono g)).trans ((j k).mono (by have:=c.size;omega))⟩
end
def lM(n:Nat)(x:Tm n)(room:Int)(s:Tc)(ms:List Tc):Int:=if 20<=ms.length then 2 else if bu n x≠0 then bu n x else if aJ n x=false then 5 else if ((s::ms).map (sz 13)).sum+sz n x<=room then 0 else 6
theorem DX{l:List Tc}(a:∀y∈l,bu 13 y=0):((l.map (cn 13)).map (sz 13)).sum=(l.map (sz 13)).sum:=by
 rw[fK];congr 1;exact jm λy b=>DY (a y b)
section
variable {base pb:Nat} {name:ByteArray} {room:Int} {n:Nat} {s:Tc} {ms:List Tc} {nk:Nat} {M:Nat->Prop} {w:World} {ws:List Wd} {nm:List ByteArray} {sv:Wd} {vs:List Wd} {ma:Option Addr} {mc:Nat} {Mh:Nat->Prop}
theorem cC.deliverC(f:cC base pb name room 13 s ms [] nk M w ws nm sv vs ma mc Mh)(x:Tm (n+1))(C:In w.heap.size w (n+1) x)(B:bZ (λb=>¬M b) (n+1) x)(J:(aw (n+1) x).length<=2097152)(I:∀b,M b->b<w.heap.size)(A:nk<=49000)(G:ms.length<=999)(v:base<=w.heap.size):am 78 #[aF pb,dj (n+1) x] w λe w'=>e=.returned (ab (lM (n+1) x room (cn 13 s) (ms.map (cn 13))))/\Hid (∃D q m o p k l h,cC base pb name room 13 s D [] (nk+201) (λb=>M b\/w.heap.size<=b) w' q m o p k l h/\bP M w w'/\D.map (cn 13)=if lM (n+1) x room (cn 13 s) (ms.map (cn 13))=0 then ms.map (cn 13)++ [cn (n+1) x]else ms.map (cn 13)):=by
 have L:∀r∈s::ms,bu 13 r=0:=λr Q=>((f.front (N:=12)).2.2.1 r Q).1;have O:((cn 13 s::ms.map (cn 13)).map (sz 13)).sum=((s::ms).map (sz 13)).sum:=DX L;by_cases a:bu (n+1) x=0
 ·have j:az ⟨n+1,x⟩:=aL.2 (bw.1 a).1;have i:fh (n+1) x<13:=by have:=(bw.1 a).2.1;omega
  have g:=jb 13 (n+1) x j i;have y:bu 13 (aO 13 (n+1) x)=0:=(bM g).trans a;have z:=f.deliver (N:=12) (aO 13 (n+1) x) (rN 13 (n+1) x _ _ j i C) (tm 13 (n+1) x _ j i B) (eN y) I A G v;have d:xU 13 (aO 13 (n+1) x) room s ms=lM (n+1) x room (cn 13 s) (ms.map (cn 13)):=by
   unfold xU lM rQ;rw[O,fI,y,a,cw _ _ _ _ g,lh _ _ _ _ g]
  have P:dj (12+1) (aO (12+1) (n+1) x)=dj (n+1) x:=ym 12 n x;rw[P]at z;refine z.mono ?_;rintro e w' ⟨rfl,E⟩;obtain⟨q,m,o,p,k,l,h,F,K⟩:=E.out;refine⟨congrArg (λS=>Ending.returned (ab S)) d,_,q,m,o,p,k,l,h,F,K,?_⟩;have H:xU (12+1) (aO (12+1) (n+1) x) room s ms=lM (n+1) x room (cn 13 s) (ms.map (cn 13)):=d;rw[H];by_cases c:lM (n+1) x room (cn 13 s) (ms.map (cn 13))=0
  ·rw[if_pos c,if_pos c,fJ];congr 1;exact congrArg (λt=> [t]) (gV g)
  ·rw[if_neg c,if_neg c]
 ·have d:lM (n+1) x room (cn 13 s) (ms.map (cn 13))=if 20<=ms.length then 2 else bu (n+1) x:=by
    unfold lM;rw[fI,if_pos a]
  have c:lM (n+1) x room (cn 13 s) (ms.map (cn 13))≠0:=by
   rw[d];split
   ·decide
   ·exact a
  refine(f.deliverBad (N:=12) x C B J A v a).mono ?_;rintro e w' ⟨rfl,u⟩;refine⟨by rw[d],ms,ws,nm,sv,vs,ma,mc,Mh,(f.later (N:=12) u).mono (N:=12) (λb R=>ah R) (by omega),aX u M,?_⟩;rw[if_neg c]
end
theorem IY{n:Nat}{x:Tm (n+1)}(room:Int)(name:ByteArray)(b:bu (n+1) x=0):fT 13 (aO 13 (n+1) x) room name=fT (n+1) x room name:=by
 have d:az ⟨n+1,x⟩:=aL.2 (bw.1 b).1;have c:fh (n+1) x<13:=by have:=(bw.1 b).2.1;omega
 have a:=jb 13 (n+1) x d c;unfold fT jx;rw[bM a,cw _ _ _ _ a,lh _ _ _ _ a]
theorem NQ(n:Nat)(x:Tm (n+1))(room:Int)(name:ByteArray)(w:World)(m:name.size<=9223372036854775807)(o:In w.heap.size w (n+1) x)(q:(aw (n+1) x).length<=2097152):am 39 #[af name,dj (n+1) x,ab room] w λe w'=>(fT (n+1) x room name≠0->e=.returned (.tuple #[.pointer none,ab (fT (n+1) x room name)])/\aj w w')/\ (fT (n+1) x room name=0->∃d,e=.returned (.tuple #[aF d,ab 0])/\Hid (w.heap.size<=d/\aj w w'/\bu (n+1) x=0/\∃s ws nm h Mh,cn 13 s=cn (n+1) x/\cC w.heap.size d name room 13 s [] [] 201 (λb=>w.heap.size<=b/\b<w'.heap.size) w' ws nm h [] none 0 Mh)):=by
 by_cases c:bu (n+1) x=0
 ·have k:az ⟨n+1,x⟩:=aL.2 (bw.1 c).1;have j:fh (n+1) x<13:=by have:=(bw.1 c).2.1;omega
  have l:=jb 13 (n+1) x k j;have r:bu 13 (aO 13 (n+1) x)=0:=(bM l).trans c;have i:=AY 12 (aO 13 (n+1) x) room name w m (rN 13 (n+1) x _ _ k j o) (eN r);have u:dj (12+1) (aO (12+1) (n+1) x)=dj (n+1) x:=ym 12 n x;rw[u]at i;refine i.mono ?_;rintro e w' ⟨f,g⟩;have t:fT (12+1) (aO (12+1) (n+1) x) room name=fT (n+1) x room name:=IY room name c;rw[t]at f g;refine⟨f,λa=>?_⟩;obtain⟨d,rfl,p⟩:=g a;obtain⟨v,y,ws,nm,h,Mh,z⟩:=p.out;exact⟨d,rfl,v,y,c,_,ws,nm,h,Mh,gV l,z⟩
 ·refine(AY n x room name w m o q).mono ?_;rintro e w' ⟨f,g⟩;refine⟨f,λa=>?_⟩;unfold fT at a;split at a
  ·cases a
  ·split at a
   ·cases a
   ·unfold jx at a;rw[if_pos c]at a;exact absurd a c
def P1(e l:Nat)(name:ByteArray)(room:Int)(cs:Tc)(g:List Tc)(k:Nat)(M:Nat->Prop)(w:World):Prop:=
 ∃a d c o j m n h i f,cC a l name room 13 d c [] k M w o j m n h i f/\(cn 13 d=cs/\c.map (cn 13)=g)/\a<=w.heap.size/\∀b,M b->e<=b/\b<w.heap.size
section
variable {B0 pb:Nat} {name:ByteArray} {room:Int} {cs:Tc} {cms:List Tc} {k:Nat} {M:Nat->Prop} {w:World}
theorem P1.later(g:P1 B0 pb name room cs cms k M w){w1:World}(c:aj w w1):P1 B0 pb name room cs cms k M w1:=by
 obtain⟨f,o,m,r,n,p,q,j,l,e,h,i,s,a⟩:=g;have t:=c.size;exact⟨f,o,m,r,n,p,q,j,l,e,h.later (N:=12) c,i,by omega,λb d=>⟨(a b d).1,by have:=(a b d).2;omega⟩⟩
theorem P1.kept(g:P1 B0 pb name room cs cms k M w){S:Nat->Prop}{w1:World}(d:bP S w w1)(j:∀b,M b->¬S b):P1 B0 pb name room cs cms k M w1:=by
 obtain⟨f,p,n,s,o,q,r,l,m,e,h,i,t,c⟩:=g;have u:=d.size;exact⟨f,p,n,s,o,q,r,l,m,e,h.kept (N:=12) d λb a _=>j b a,i,by omega,λb a=>⟨(c b a).1,by have:=(c b a).2;omega⟩⟩
def mM(M:Nat->Prop)(w w':World)(b:Nat):Prop:=(M b\/w.heap.size<=b)/\b<w'.heap.size
theorem P1.ok(h:P1 B0 pb name room cs cms k M w):bu 13 cs=0/\aJ 13 cs=true/\(∀m∈cms,bu 13 m=0/\aJ 13 m=true)/\((cs::cms).map (sz 13)).sum<=room:=by
 obtain⟨q,b,f,z,v,x,y,t,u,p,i,⟨rfl,rfl⟩,r,s⟩:=h;obtain⟨_,_,e,n,o,_⟩:=i.front (N:=12);have j:∀a∈b::f,bu 13 a=0:=λa d=>(e a d).1;have c:=e b (by simp);refine⟨pC c.1,(lK c.1).trans c.2,λm l=>?_,?_⟩
 ·obtain⟨a,d,rfl⟩:=ci.1 l;have:=e a (bI _ d);exact⟨pC this.1,(lK this.1).trans this.2⟩
 ·have g:((cn 13 b::f.map (cn 13)).map (sz 13)).sum=((b::f).map (sz 13)).sum:=DX j;rw[g];exact Int.le_trans n o
theorem P1.deliver(j:P1 B0 pb name room cs cms k M w){n:Nat}(x:Tm (n+1))(t:In w.heap.size w (n+1) x)(s:bZ (λb=>¬M b) (n+1) x)(q:(aw (n+1) x).length<=2097152)(r:k<=49000)(m:cms.length<=999)(G:B0<=w.heap.size):am 78 #[aF pb,dj (n+1) x] w λe w'=>e=.returned (ab (lM (n+1) x room cs cms))/\Hid (bP M w w'/\P1 B0 pb name room cs (if lM (n+1) x room cs cms=0 then cms++ [cn (n+1) x]else cms) (k+201) (mM M w w') w'):=by
 obtain⟨i,A,J,P,K,L,O,H,I,E,l,⟨rfl,rfl⟩,c,d⟩:=j;refine(l.deliverC x t s q (λb a=>(d b a).2) r (by simpa using m) c).mono ?_;rintro e w' ⟨rfl,h⟩;obtain⟨y,D,z,B,C,u,v,F,o,f,p⟩:=h.out;refine⟨rfl,f,i,A,y,D,z,B,C,u,v,_,o.inside (N:=12),⟨rfl,p⟩,ay c f.size,λb a=>⟨?_,a.2⟩⟩;rcases a.1 with g|g
 ·exact(d b g).1
 ·omega
theorem P1.state(d:P1 B0 pb name room cs cms k M w)(g:k<=50000):am 24 #[aF pb] w λe w'=>∃y:Tc,e=.returned (dj 13 y)/\Hid (aj w w'/\In w'.heap.size w' 13 y/\bZ (λq=>w.heap.size<=q) 13 y/\bu 13 y=0/\cn 13 y=cs):=by
 obtain⟨l,h,r,v,s,t,u,o,p,j,a,⟨rfl,rfl⟩,m,n⟩:=d;have f:=(a.front (N:=12)).2.2.1 h (by simp);refine(a.state (N:=12) g).mono ?_;rintro e w' ⟨y,rfl,c⟩;obtain⟨y1,y2,i,b⟩:=c.out;exact⟨y,rfl,y1,y2,i,(bM b).trans f.1,gV b⟩
end
section
variable {B0 pb:Nat} {name:ByteArray} {room:Int} {cs:Tc} {cms:List Tc} {k:Nat} {M:Nat->Prop} {w:World}
theorem P1.mono(f:P1 B0 pb name room cs cms k M w){M':Nat->Prop}{c a:Nat}(j:∀b,M b->M' b)(m:k<=c)(l:∀b,M' b->a<=b/\b<w.heap.size):P1 a pb name room cs cms c M' w:=by
 obtain⟨e,r,p,u,q,s,t,n,o,d,g,h,i,_⟩:=f;exact⟨e,r,p,u,q,s,t,n,o,d,g.mono (N:=12) j m,h,i,l⟩
def Oj(B0 pb:Nat)(name:ByteArray)(room:Int)(cs:Tc)(cms:List Tc)(k:Nat)(M:Nat->Prop)(n:Nat)(l:List (Bh (n+1)))(self next:Int)(w:World)(e:Ending)(w':World):Prop:=
 (∃g,e=.returned (.tuple #[LC,ab g])/\Hid (g≠0/\g=qU n room l name self next cs cms/\aj w w'))\/
  ∃(a:Tc)(f:Int)(sa:Option Addr)(sl sc:Nat)(pa:Option Addr)(pl pc:Nat)(ka:Option Addr)(kl kc:Nat),e=.returned (.tuple #[Nr a.1.1 a.1.2.1 a.1.2.2 a.2.1.1 a.2.2.length a.2.1.2 f sa sl sc pa pl pc ka kl kc,ab 0])/\Hid (∃c d,qU n room l name self next cs cms=0/\l6 room l name self next cs cms=some c/\f=c.fate/\cn 13 a=c.message/\bu 13 a=0/\In w'.heap.size w' 13 a/\bZ (λh=>w.heap.size<=h/\h<d) 13 a/\bP M w w'/\w.heap.size<d/\
   P1 B0 pb name room c.state c.mail (k+402) (λb=>(M b\/d<=b)/\b<w'.heap.size) w'/\c.mail.length<=cms.length/\lu (w.heap.size+1) c.sends c.spawns c.links sa sl sc pa pl pc ka kl kc (λ_=>True) w')
theorem P1.step(D:P1 B0 pb name room cs cms k M w){n:Nat}(l:List (Bh (n+1)))(a:Option Addr)(c B:Nat)(K:gP (n+1) B w a l)(G:B<=w.heap.size)(L:l.length<=c)(O:c<=maxLen)(H:jY (n+1) l=true->(aw (n+6) (bW n l)).length<=2097152)(I:∀W,bq M w W->gP (n+1) B W a l)(ak:B0<=w.heap.size)(J:k<=47000)(F:cms.length<=999)(self next:Int):am 43 #[aF pb,ae a l.length c,ab self,ab next] w (Oj B0 pb name room cs cms k M n l self next w):=by
 obtain⟨C,ap,S,av,ao,aq,ar,al,an,af,E,⟨rfl,rfl⟩,i,j⟩:=D;refine(E.step l a c B K G L O H (λb d=>(j b d).2) I J (by simpa using F) i self next).mono ?_;rintro aj au (⟨Y,rfl,e⟩|⟨ad,f,sa,sl,sc,pa,pl,pc,ka,kl,kc,rfl,e⟩)
 ·exact ah ⟨Y,rfl,e.out⟩
 ·obtain⟨X,P,o,p,r,s,t,u,v,x,g,y,⟨U,aa,T,V,Z,Q,R,ag,z,A,h⟩,q⟩:=e.out;refine ai ⟨ad,f,sa,sl,sc,pa,pl,pc,ka,kl,kc,rfl,X,o,p,r,s,t,u,v,x,g,y,⟨C,U,_,aa,T,V,Z,Q,R,_,z.inside (N:=12),⟨A,h⟩,ay i g.size,λb d=>⟨?_,d.2⟩⟩,?_,q⟩
  ·rcases d.1 with m|m
   ·exact(j b m).1
   ·omega
  ·rw[<-h,fI,fI];exact List.length_eraseIdx_le S P
end
theorem P1.new(n:Nat)(x:Tm (n+1))(room:Int)(name:ByteArray)(w:World)(m:name.size<=9223372036854775807)(o:In w.heap.size w (n+1) x)(k:(aw (n+1) x).length<=2097152):am 39 #[af name,dj (n+1) x,ab room] w λe w'=>∃p:Option Addr,e=.returned (.tuple #[.pointer p,ab (fT (n+1) x room name)])/\Hid (aj w w'/\(fT (n+1) x room name≠0->p=none)/\(fT (n+1) x room name=0->∃a,p=some ⟨a,0,none⟩/\w.heap.size<=a/\bu (n+1) x=0/\P1 w.heap.size a name room (cn (n+1) x) [] 201 (λb=>w.heap.size<=b/\b<w'.heap.size) w')):=by
 refine(NQ n x room name w m o k).mono ?_;rintro e w' ⟨i,j⟩;by_cases c:fT (n+1) x room name=0
 ·obtain⟨a,rfl,g⟩:=j c;obtain⟨q,f,r,v,z,u,y,h,s,t⟩:=g.out;exact⟨some ⟨a,0,none⟩,by rw[c],f,λd=>absurd c d,λ_=>⟨a,rfl,q,r,w.heap.size,v,[],z,u,y,[],none,0,h,t,⟨s,rfl⟩,f.size,λb d=>d⟩⟩
 ·obtain⟨rfl,l⟩:=i c;exact⟨none,rfl,l,λ_=>rfl,λd=>absurd d c⟩
structure BL where
 b:Nat
 o:Nat
 c:Array Value
 t:TypeId
def sN(p:BL)(a:Option Nat)(w:World):Prop:=(p.o<p.c.size/\p.t≠30)/\w.heap[p.b]?=some (.cells (p.c.setIfInBounds p.o (.map a)) p.t (0,0))
theorem sN.cell{p:BL}{c:Option Nat}{w:World}(a:sN p c w):w.cell? ⟨p.b,p.o,none⟩=some (.map c)/\∀j,w.frozen? ⟨p.b,j,none⟩=false:=by
 refine⟨?_,λj=>by simp[World.frozen?,a.2]⟩;simp[World.cell?,a.2,a.1.1]
theorem sN.lt{p:BL}{c:Option Nat}{w:World}(a:sN p c w):p.b<w.heap.size:=(aD.1 a.2).1
theorem sN.kept{p:BL}{c:Option Nat}{w w':World}(a:sN p c w)(d:w'.heap[p.b]?=w.heap[p.b]?):sN p c w':=⟨a.1,d.trans a.2⟩
theorem sN.set{p:BL}{c mo':Option Nat}{w:World}(a:sN p c w):sN p mo' (w.setCell ⟨p.b,p.o,none⟩ (.map mo')):=by
 refine⟨a.1,?_⟩;simp[World.setCell,bG,a.2]
def gS(base:Nat)(d:BL)(a:Option Nat)(n N:Nat)(f:Int×Int->List (Tm N))(sl:Int×Int->Value)(w:World):Prop:=
 base<=d.b/\sN d a w/\((a=none/\f=(λ_=> [])/\sl=λ_=>lT)\/∃c,a=some c/\GM base c n N f sl w)
def ri(c:BL)(a:Option Nat)(sl:Int×Int->Value)(b:Nat):Prop:=b=c.b\/a=some b\/∃k,I2 k/\(sl k).ownBlock=some b
variable {base n N:Nat} {wp:BL} {mo:Option Nat} {f:Int×Int->List (Tm N)} {sl:Int×Int->Value} {w:World}
theorem gS.lt(c:gS base wp mo n N f sl w)(b:Nat)(a:ri wp mo sl b):base<=b/\b<w.heap.size:=by
 obtain⟨d,e,g⟩:=c;rcases a with rfl|a
 ·exact⟨d,e.lt⟩
 ·rcases g with⟨rfl,_,rfl⟩|⟨i,rfl,h⟩
  ·rcases a with a|⟨k,_,a⟩
   ·cases a
   ·simp[lT,Value.ownBlock]at a
  ·refine h.lt b ?_;rcases a with a|a
   ·exact ah (au a).symm
   ·exact ai a
theorem Ee{wp:BL}{c b:Nat}{sl:Int×Int->Value}(a:L8 c sl b):ri wp (some c) sl b:=by
 rcases a with rfl|a
 ·exact ai (ah rfl)
 ·exact ai (ai a)
theorem gS.kee{S:Nat->Prop}{w':World}(c:gS base wp mo n N f sl w)(k:bq S w w')(d:∀b,ri wp mo sl b->¬S b):gS base wp mo n N f sl w':=by
 have j:=(c.lt wp.b (ah rfl)).2;obtain⟨e,g,a⟩:=c;refine⟨e,g.kept (k.block wp.b j (d wp.b (ah rfl))),?_⟩;rcases a with a|⟨l,rfl,i⟩
 ·exact ah a
 ·exact ai ⟨l,rfl,i.kee k λb h=>d b (Ee h)⟩
theorem gS.later{w':World}(a:gS base wp mo n N f sl w)(k:aj w w'):gS base wp mo n N f sl w':=a.kee (aI k λ_=>False) λ_ _ b=>b
theorem gS.row(a:gS base wp mo n N f sl w){k:Int×Int}(c:I2 k):nw base N (sl k) (f k) w:=by
 rcases a.2.2 with⟨_,rfl,rfl⟩|⟨d,_,b⟩
 ·exact⟨by simp[di,cr],ah ⟨rfl,rfl⟩⟩
 ·exact b.row k c
theorem gS.look(b:gS base wp mo n N f sl w){k:Int×Int}(a:I2 k):(Instr.lookup 63 (.map mo) (pk k) false).run Tryz.prog w=.ok (sl k) w:=by
 rcases b.2.2 with⟨rfl,_,rfl⟩|⟨d,rfl,c⟩
 ·exact FI w a
 ·exact c.look a
theorem gS.cell(a:gS base wp mo n N f sl w):w.cell? ⟨wp.b,wp.o,none⟩=some (.map mo)/\∀j,w.frozen? ⟨wp.b,j,none⟩=false:=by
 exact a.2.1.cell
theorem nw.sliced{v:Value}{l:List (Tm N)}(d:nw base N v l w):∃a c,v=ae a l.length c:=by
 rcases d.2 with⟨rfl,b⟩|⟨f,cap,e,rfl,_⟩
 ·exact⟨none,0,by rw[b]⟩
 ·exact⟨_,_,rfl⟩
theorem GZ(c:gS base wp mo n N f sl w){a b:Int}(g:I2 (a,b)):am 144 #[.pointer (some ⟨wp.b,wp.o,none⟩),ab a,ab b] w λe w'=>e=.returned (ab (f (a,b)).length)/\w'=w:=by
 have i:=c.cell.1;obtain⟨sa,sc,h⟩:=(c.row g).sliced;have d:=c.look g;rw[h]at d;unfold pk at d;simp only at d;clear c;go_enter Tryz.func144,Tryz.ntmps144;go_wp2_with fail
 go_ret
 exact⟨rfl,rfl⟩
theorem Em(a:Int)(w:World):am 143 #[ab a] w λe w'=>e=.returned (.bool (decide (1<=a) && decide (a<=99)))/\w'=w:=by
 go_enter Tryz.func143,Tryz.ntmps143;by_cases b:1<=a<;>by_cases c:a<=99
 all_goals
  go_wp2_with fail
  go_ret
  simp[b,c]
variable {base mb n N:Nat} {f:Int×Int->List (Tm N)} {sl:Int×Int->Value} {w wr:World}
def Mn(base mb n N:Nat)(f:Int×Int->List (Tm N))(sl:Int×Int->Value)(k:Int×Int)(g:Nat)(W e:World):Prop:=
 ∀(a:World)(c:Value)(l:List (Tm N)),a.heap[mb]?=e.heap[mb]? ->bq (λb=>b=mb\/(sl k).ownBlock=some b) W a->l≠[]->nw base N c l a->(∀b,c.ownBlock=some b->(sl k).ownBlock=some b\/W.heap.size<=b)->
  ∃d,(Instr.entryStore 63 (.map (some mb)) (goInt g) c).run Tryz.prog a=.ok () d/\GM base mb (n+1) N (gK f k l) (gK sl k c) d/\bq (λb=>b=mb) a d/\d.heap.size=a.heap.size
def Oc(base mb n N:Nat)(f:Int×Int->List (Tm N))(sl:Int×Int->Value)(k:Int×Int)(y:Tm N)(wr c:World):Prop:=
 ∃a,GM base mb (n+1) N (gK f k (f k++ [y])) (gK sl k a) c/\bq (L8 mb sl) wr c/\∀b,L8 mb (gK sl k a) b->L8 mb sl b\/wr.heap.size<=b
theorem GM.open(d:GM base mb n N f sl wr){k:Int×Int}(h:I2 k)(i:n<1000000){W:World}(e:aj wr W):∃(c:Nat)(a:World),(Instr.mapEntry 63 (.map (some mb)) (pk k)).run Tryz.prog W=.ok (.tuple #[sl k,goInt c]) a/\bq (λb=>b=mb) W a/\a.heap.size=W.heap.size/\Mn base mb n N f sl k c W a:=
 (d.kee (aI e λ_=>False) λ_ _ g=>g).entry h i
theorem Mn.done(o:GM base mb n N f sl wr){k:Int×Int}(s:I2 k){w L:Nat}{W i j e:World}(B:Mn base mb n N f sl k w W i)(q:aj wr W)(J:bq (λb=>b=mb) W i)(M:i.heap.size=W.heap.size)(l:aj i j)(D:j.grownBy e (sl k).ownBlock){g c:Nat}{y:Tm N}(z:(f k).length=L)(F:e.ownsRow base 30 4 (ae (some ⟨g,0,none⟩) (L+1) c) (L+1) (di N (f k)++uF (gd N y)))(A:(sl k).ownBlock=some g\/g=j.heap.size):∃h,(Instr.entryStore 63 (.map (some mb)) (goInt w) (ae (some ⟨g,0,none⟩) (L+1) c)).run Tryz.prog e=.ok () h/\Oc base mb n N f sl k y wr h/\bq (λb=>b=mb) e h/\h.heap.size=e.heap.size:=by
 subst z;have K:=o.lt mb (ah rfl);have P:=q.size;have O:=l.size;have v:=dU D;have I:(Value.slice (some ⟨g,0,none⟩) ((f k).length+1) c).ownBlock=some g:=rfl;have u:∀b,(Value.slice (some ⟨g,0,none⟩) ((f k).length+1) c).ownBlock=some b->(sl k).ownBlock=some b\/W.heap.size<=b:=λb d=>by
  rw[I]at d;injection d with d;subst d;rcases A with a|a
  ·exact ah a
  ·exact ai (by omega)
 have p:bq (λb=>b=mb\/(sl k).ownBlock=some b) W e:=by
  refine bq.trans (bq.trans (J.mono λb _ a=>ah a) (aI l λ_=>False) λ_ _ C=>C.elim) v λb _ a=>ai a
 have E:e.heap[mb]?=i.heap[mb]? :=(v.block mb (by omega) (o.ne s)).trans (l.block mb (by omega))
 obtain⟨h,G,x,t,H⟩:=B e _ (f k++ [y]) E p (by simp) (by
  unfold nw;rw[pf,bj];have a:di N [y]=uF (gd N y):=by simp[di,cr]
  rw[a]
  exact F) u
 refine⟨h,G,⟨_,x,?_,λb d=>?_⟩,t,H⟩
 ·refine bq.trans (bq.trans (aI q _) (p.mono (T:=λb=>b=mb\/(sl k).ownBlock=some b) λb _ a=>a) λb _ a=>?_) t λb _ a=>ah a;rcases a with a|a
  ·exact ah a
  ·exact ai ⟨k,s,a⟩
 ·rcases d with d|⟨m,r,d⟩
  ·exact ah (ah d)
  ·by_cases a:m=k
   ·subst a;rw[cH]at d;rcases u b d with a|a
    ·exact ah (ai ⟨m,r,a⟩)
    ·exact ai (by omega)
   ·rw[bN _ _ a]at d;exact ah (ai ⟨m,r,d⟩)
section
variable {ops:Array Oper} {o:Oper} {a:Act} {K:Act->World->Prop} {Q:Exit->Act->World->Prop} {E:Prop}
end
end Go.Proofs.YtckamaoibonjcaaGreat
