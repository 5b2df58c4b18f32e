/- The rest of the shelf: nothing. -/
import Derived.Test.YthkemecmngecaaaGreatDoorShelf
